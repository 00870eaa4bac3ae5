import PyProof.Rows.All
import Wide.All
import OpenK.AllK
import Wide.FinOn
import HandS.ForMost
import HandS.IsInst
import HandS.DictComp
import HandS.Walk
import HandS.Wide
import HandS.EndTab
import KE.KSortKeySt
import KE.KLam
import PyProof.TupleOfSeq
import HandS.SortKw
import HandS.Lambda
import HandS.Nested
import OpenK.KMeth
import OpenK.KOps
import HandS.Star
import HandS.SlotsOwn
import HandS.ClsMeth
import HandS.Property
import HandS.More
import KE.GoesMore
import KE.GoesEnum
import PyProof.EnumMake
import PyProof.StrOps2
import HandS.NoneIn
import HandS.Words
import HandS.MapSum
import PyProof.EqAt
import PyProof.EqKinds
import PyProof.TupleCall
import KE.KDflt
import HandS.Base
import HandS.Call
import HandS.List
import HandS.Comp
import HandS.Text
import HandS.Exc
import HandS.Codes
import HandS.TryOnly
import PyProof.CodeObj
import HandS.ExcIs
import HandS.ExcField
import HandS.ExcInit
import HandS.WordsExc
import HandS.SetFor
import KE.KExcIs
import HandS.ExcOwn
import HandS.Sort
import HandS.Style
import HandS.TupMul
import KE.KOpsOwn
import HandS.Iter
import KE.KNestM
import PySem.Challenge.RW_slowleaders_k01_roads_and_their_signs
/-! A stable order by int keys: the one list that is ordered and keeps the rows of equal keys. -/
namespace OwnR
def ins {α : Type} (p : Int × α) : List (Int × α) → List (Int × α)
  | [] => [p]
  | q :: r => if p.1 ≤ q.1 then p :: q :: r else q :: ins p r
def isort {α : Type} : List (Int × α) → List (Int × α)
  | [] => []
  | p :: r => ins p (isort r)
section
variable {α β : Type}
theorem ins_perm (p : Int × α) : ∀ l : List (Int × α), (ins p l).Perm (p :: l)
  | [] => List.Perm.refl _
  | q :: r => by
    unfold ins
    split
    · exact List.Perm.refl _
    · exact ((ins_perm p r).cons q).trans (List.Perm.swap p q r)
theorem isort_perm : ∀ l : List (Int × α), (isort l).Perm l
  | [] => List.Perm.refl _
  | p :: r => (ins_perm p _).trans ((isort_perm r).cons p)
theorem ins_up (p : Int × α) : ∀ l : List (Int × α), l.Pairwise (fun a b => a.1 ≤ b.1) → (ins p l).Pairwise (fun a b => a.1 ≤ b.1)
  | [], _ => by simp [ins]
  | q :: r, h => by
    unfold ins
    have h1 := List.pairwise_cons.mp h
    split
    · rename_i hpq
      refine List.pairwise_cons.mpr ⟨fun b hb => ?_, h⟩
      rcases List.mem_cons.mp hb with rfl | hb
      · exact hpq
      · exact Int.le_trans hpq (h1.1 b hb)
    · rename_i hpq
      refine List.pairwise_cons.mpr ⟨fun b hb => ?_, ins_up p r h1.2⟩
      rcases List.mem_cons.mp ((ins_perm p r).mem_iff.mp hb) with rfl | hb
      · omega
      · exact h1.1 b hb
theorem isort_up : ∀ l : List (Int × α), (isort l).Pairwise (fun a b => a.1 ≤ b.1)
  | [] => List.Pairwise.nil
  | p :: r => ins_up p _ (isort_up r)
theorem ins_row (p : Int × α) (z : Int) : ∀ l : List (Int × α), (ins p l).filter (fun a => a.1 == z) = (p :: l).filter (fun a => a.1 == z)
  | [] => rfl
  | q :: r => by
    unfold ins
    split
    · rfl
    · rename_i hpq
      rw [List.filter_cons, ins_row p z r]
      by_cases h1 : p.1 = z
      · have h2 : (q.1 == z) = false := by simp; omega
        simp [List.filter_cons, h1, h2]
      · have h3 : (p.1 == z) = false := by simp [h1]
        simp [List.filter_cons, h3]
theorem isort_row (z : Int) : ∀ l : List (Int × α), (isort l).filter (fun a => a.1 == z) = l.filter (fun a => a.1 == z)
  | [] => rfl
  | p :: r => by
    unfold isort
    rw [ins_row, List.filter_cons, List.filter_cons, isort_row z r]
theorem eq_of_rows : ∀ l k : List (Int × α), l.Pairwise (fun a b => a.1 ≤ b.1) → k.Pairwise (fun a b => a.1 ≤ b.1) → (∀ z, l.filter (fun a => a.1 == z) = k.filter (fun a => a.1 == z)) → l = k
  | [], [], _, _, _ => rfl
  | [], b :: k, _, _, h => by
    have := h b.1
    simp at this
  | a :: l, [], _, _, h => by
    have := h a.1
    simp at this
  | a :: l, b :: k, hl, hk, h => by
    have l1 := List.pairwise_cons.mp hl
    have k1 := List.pairwise_cons.mp hk
    have hab : a.1 = b.1 := by
      rcases Int.lt_trichotomy a.1 b.1 with c | c | c
      · exfalso
        have e := h a.1
        rw [List.filter_cons, if_pos (by simp)] at e
        have m : a ∈ (b :: k).filter (fun x => x.1 == a.1) := by rw [← e]; exact List.mem_cons_self
        have m1 := List.mem_filter.mp m
        rcases List.mem_cons.mp m1.1 with e1 | e1
        · rw [e1] at c; omega
        · have := k1.1 a e1; omega
      · exact c
      · exfalso
        have e := h b.1
        have m : b ∈ (a :: l).filter (fun x => x.1 == b.1) := by
          rw [e, List.filter_cons, if_pos (by simp)]; exact List.mem_cons_self
        have m1 := List.mem_filter.mp m
        rcases List.mem_cons.mp m1.1 with e1 | e1
        · rw [e1] at c; omega
        · have := l1.1 b e1; omega
    have e := h a.1
    rw [List.filter_cons, if_pos (by simp), List.filter_cons, if_pos (by simp [hab])] at e
    have e0 : a = b := (List.cons.inj e).1
    subst e0
    refine congrArg _ (eq_of_rows l k l1.2 k1.2 fun z => ?_)
    have ez := h z
    by_cases c : a.1 = z
    · rw [List.filter_cons, if_pos (by simp [c]), List.filter_cons, if_pos (by simp [c])] at ez
      exact (List.cons.inj ez).2
    · rw [List.filter_cons, if_neg (by simp [c]), List.filter_cons, if_neg (by simp [c])] at ez
      exact ez
theorem isort_unique {l k : List (Int × α)} (h1 : k.Pairwise (fun a b => a.1 ≤ b.1)) (h2 : ∀ z, k.filter (fun a => a.1 == z) = l.filter (fun a => a.1 == z)) : k = isort l :=
  eq_of_rows k (isort l) h1 (isort_up l) fun z => (h2 z).trans (isort_row z l).symm
theorem ins_map (f : α → β) (p : Int × α) : ∀ l : List (Int × α), ins (p.1, f p.2) (l.map fun q => (q.1, f q.2)) = (ins p l).map fun q => (q.1, f q.2)
  | [] => rfl
  | q :: r => by
    simp only [List.map_cons, ins]
    split
    · rfl
    · rw [ins_map f p r, List.map_cons]
theorem isort_map (f : α → β) : ∀ l : List (Int × α), isort (l.map fun q => (q.1, f q.2)) = (isort l).map fun q => (q.1, f q.2)
  | [] => rfl
  | p :: r => by
    simp only [List.map_cons, isort]
    rw [isort_map f r, ins_map f p]
/-- the items in the order of their keys, stable -/
def sortBy (key : α → Int) (l : List α) : List α := (isort (l.map fun x => (key x, x))).map (·.2)
theorem sortBy_perm (key : α → Int) (l : List α) : (sortBy key l).Perm l := by
  have h := (isort_perm (l.map fun x => (key x, x))).map (·.2)
  rw [List.map_map] at h
  have e : ((fun x : Int × α => x.2) ∘ fun x => (key x, x)) = id := rfl
  rw [e, List.map_id] at h
  exact h
theorem sortBy_map (f : α → β) (k1 : α → Int) (k2 : β → Int) (l : List α) (h : ∀ x ∈ l, k2 (f x) = k1 x) : sortBy k2 (l.map f) = (sortBy k1 l).map f := by
  unfold sortBy
  have e : ((l.map f).map fun x => (k2 x, x)) = (l.map fun x => (k1 x, x)).map fun q => (q.1, f q.2) := by
    rw [List.map_map, List.map_map]
    refine List.map_congr_left fun x hx => ?_
    show (k2 (f x), f x) = (k1 x, f x)
    rw [h x hx]
  rw [e, isort_map, List.map_map, List.map_map]
  rfl
theorem sortBy_congr (k1 k2 : α → Int) (l : List α) (h : ∀ x ∈ l, k2 x = k1 x) : sortBy k2 l = sortBy k1 l := by
  have := sortBy_map (fun x => x) k1 k2 l h
  simpa using this
end
end OwnR

set_option Elab.async false
set_option linter.all false
set_option maxRecDepth 100000
set_option maxHeartbeats 2000000
namespace OwnR
open PySem PySem.Spec PyProof.Rows L2 LamX
/-! ### sorted(xs, key=lambda y: ..) -/
section
variable {prog : Program} {w : World} {A : Around} {E : Value → Shared → Prop} {s : Shared} {g0 : Heap} {L : Addr} {m : Str → Option Value} {news : List (Addr × Obj)} {vs : List Value}
/-- the new list is sorted by its keys and handed out -/
theorem sort_tail {R : PySem.Fin → Shared → Prop} {kz : List Int} {g : Addr} (F : Fr g0 L s.heap m) (N : News g0 L s.heap news) (hl : kz.length = vs.length) (hz : vs.length ≤ sizeLine)
    (turn : ∀ (i : Nat) (v : Value) (k : Int), vs[i]? = some v → kz[i]? = some k → ∀ (h : Heap) (tk : Nat) (own : List (Addr × Obj)), Fr g0 L h m → News g0 L h (news ++ own) →
      wpAny (model prog w) A.in1 (call (.ref g) [v]) (KskEnd g0 L m (news ++ own) k { s with heap := h, toks := tk }) (fun _ _ => False) { s with heap := h, toks := tk })
    (done : ∀ h' tk out c, Fr g0 L h' m → News g0 L h' ((s.heap.objs.size, seqObj "list" out c) :: news) → KskOutSt false kz vs out.toList → R (.done (.ret (.ref s.heap.objs.size))) { s with heap := h', toks := tk }) :
    wpAny (model prog w) A (newList vs >>= fun l => holding [l] (call (.builtin "list.sort") [l] [(Str.ofString "key", .ref g)]) >>= fun _ => ret l) R E s := by
  have hL : L < s.heap.objs.size := F.ns.lt
  have at0 : (s.heap.push (seqObj "list" vs.toArray 0)).get? s.heap.objs.size = some (seqObj "list" vs.toArray 0) := Heap.get?_push_size _ rfl
  have kp : ∀ b o, s.heap.get? b = some o → (s.heap.push (seqObj "list" vs.toArray 0)).get? b = some o := fun b o e => Heap.get?_push_of_some _ e
  refine wpAny_bind (wpAny_newList ?_ hz)
  show wpAny _ _ _ _ _ { s with heap := s.heap.push (seqObj "list" vs.toArray 0) }
  refine wpAny_bind (wpAny_holding (wpAny_call_entry_kw slot_list_sort ⟨_, at0, rfl⟩ entry_list_sort ?body (ksk_l1 _ _)))
  case body =>
    have et := ksk_t1 g s.heap.objs.size
    show wpAny (model prog w) A.in1 (Builtin.«list.sort» ⟨[.ref s.heap.objs.size], [(Str.ofString "key", .ref g)]⟩) _ _ _
    rw [et]
    refine ksk_sortSt (h₀ := g0) (L := L) (m := m) (news := news) (kz := kz) (vs := vs) (s := { s with heap := s.heap.push (seqObj "list" vs.toArray 0) })
      (F.kept kp) (N.grown kp) at0 (Nat.ne_of_gt hL) (Heap.get?_none_of_le (Nat.le_trans F.above (Nat.le_of_lt hL))) (fun p hp => Nat.ne_of_lt (Heap.lt_size (N p hp).1)) hl hz turn
      fun h' tk out c F' N' k' => ⟨_, rfl, wpAny_pure (done h' tk out c F' N' k')⟩
end
/-- a value of the heap, without its token -/
def toV : Value → V
  | .none => .non
  | .bool b => .bl b
  | .int i _ => .int i
  | .str x _ => .str x
  | .bytes b _ => .byt b
  | .float b _ => .flt b
  | .ref a => .ref a
  | .type n => .ty n
  | _ => .non
theorem toV_of {x : V} {u : Value} (r : RelV x u) : toV u = x := by
  cases x with
  | non => cases (show u = Value.none from r); rfl
  | bl b => cases (show u = Value.bool b from r); rfl
  | int i => obtain ⟨t, e⟩ := (show ∃ t, u = Value.int i t from r); cases e; rfl
  | str x => obtain ⟨t, e⟩ := (show ∃ t, u = Value.str x t from r); cases e; rfl
  | byt b => obtain ⟨t, e⟩ := (show ∃ t, u = Value.bytes b t from r); cases e; rfl
  | flt b => obtain ⟨t, e⟩ := (show ∃ t, u = Value.float b t from r); cases e; rfl
  | ref a => cases (show u = Value.ref a from r); rfl
  | ty n => cases (show u = Value.type n from r); rfl
theorem toV_map {xs : List V} {us : List Value} (r : Vals xs us) : us.map toV = xs := by
  induction r with
  | nil => rfl
  | cons a _ ih => rw [List.map_cons, ih, toV_of a]
theorem vals_toV : ∀ {us : List Value}, (∀ u ∈ us, RelV (toV u) u) → Vals (us.map toV) us
  | [], _ => .nil
  | u :: us, h => .cons (h u List.mem_cons_self) (vals_toV fun v hv => h v (List.mem_cons_of_mem _ hv))
theorem vals_all {xs : List V} {us : List Value} (r : Vals xs us) : ∀ u ∈ us, RelV (toV u) u := by
  induction r with
  | nil => intro u hu; cases hu
  | cons a _ ih =>
    intro u hu
    rcases List.mem_cons.mp hu with rfl | hu
    · rw [toV_of a]; exact a
    · exact ih u hu
/-- what comes out, by values -/
theorem out_of {kz : List Int} {vs out : List Value} {xs : List V} (hl : kz.length = vs.length) (r : Vals xs vs) (k : KskOutSt false kz vs out) :
    ∃ ys, Vals ys out ∧ ys = (isort (kz.zip xs)).map (·.2) := by
  obtain ⟨ps, hp, ho, hs, hst⟩ := k
  have hs' : ps.Pairwise (fun a b => a.1 ≤ b.1) := hs
  have e := isort_unique hs' hst
  have e2 : kz.zip xs = (kz.zip vs).map fun q => (q.1, toV q.2) := by
    rw [← toV_map r, List.zip_map_right]
    rfl
  refine ⟨out.map toV, vals_toV fun u hu => ?_, ?_⟩
  · rw [ho] at hu
    obtain ⟨p, hm, rfl⟩ := List.mem_map.mp hu
    exact vals_all r _ (List.of_mem_zip (hp.mem_iff.mp hm)).2
  · rw [e2, isort_map, ho, e, List.map_map, List.map_map]
    rfl
/-- what a key's body gives for the value u: the int k, nothing changed -/
def KeyRun (X : Cx) (par : Str) (body : Expr) (scope : Scope) (s : Shared) (u : Value) (k : Int) : Prop :=
  ∀ (A : Around) (L' f c' : Addr) (h1 : Heap) (tk : Nat), (∀ b o, s.heap.get? b = some o → b ≠ X.env.locals → h1.get? b = some o) → h1.Ns L' (fun y => ([(par, u)] : List (Str × Value)).reverse.lookup y) →
    wpAny (model X.prog X.w) A (eval body (PySem.W.envX (X.env.qual ++ "<lambda>") scope L' f (.ref c') (cloFrom X.env.cells scope.names []))) (fun v s' => ∃ t tk', v = .int k t ∧ s' = { s with heap := h1, toks := tk' }) (fun _ _ => False)
      { s with heap := h1, toks := tk }
/-- the lambda's scope: its parameter, no cell of its own, captured names of the maker -/
structure LamP (sc scope : Scope) (par : Str) : Prop where
  kind : scope.kind = .function
  co : scope.isCoroutine = false
  gen : scope.isGenerator = false
  cell : ∀ y ∈ scope.names, y.2 ≠ .cell
  par : scope.names.lookup par = some .local
  free : ∀ y ∈ scope.names, y.2 = .free → sc.names.lookup y.1 = some .cell ∨ sc.names.lookup y.1 = some .free
def lamPB (sc scope : Scope) (par : Str) : Bool :=
  decide (scope.kind = .function) && !scope.isCoroutine && !scope.isGenerator && decide (scope.names.lookup par = some .local) && scope.names.all fun y => !decide (y.2 = .cell) && (!decide (y.2 = .free) || decide (sc.names.lookup y.1 = some .cell) || decide (sc.names.lookup y.1 = some .free))
theorem lamP_by {sc scope : Scope} {par : Str} (h : lamPB sc scope par = true) : LamP sc scope par := by
  unfold lamPB at h
  simp only [Bool.and_eq_true, Bool.or_eq_true, Bool.not_eq_true', decide_eq_true_eq, decide_eq_false_iff_not, List.all_eq_true] at h
  obtain ⟨⟨⟨⟨h1, h2⟩, h3⟩, h4⟩, h5⟩ := h
  refine ⟨h1, h2, h3, fun y hy => (h5 y hy).1, h4, fun y hy e => ?_⟩
  rcases (h5 y hy).2 with (z | z) | z
  · exact absurd e z
  · exact .inl z
  · exact .inr z
theorem LamP.has {X : Cx} {scope : Scope} {par : Str} (l : LamP X.env.scope scope par) (ok : X.Ok) : ∀ y ∈ scope.names, y.2 = .free → ∃ c, X.env.cells.lookup y.1 = some c := fun y hy e =>
  (l.free y hy e).elim (fun z => ok.has _ (.inl z)) fun z => ok.has _ (.inr z)
/-- the keys' readings: σ, H ahead; the item; its key -/
abbrev TKey := L2.St → Hp → V → Int → Prop
structure PKey (X : Cx) (par : Str) (body : Expr) (scope : Scope) (r : TKey) : Prop where
  run : ∀ (pins : List (Addr × Obj)) (s : Shared) (σ : L2.St) (H : Hp) (x : V) (u : Value) (k : Int), Inv X pins σ H s → RelV x u → r σ H x k → KeyRun X par body scope s u k
/-- sorted(xs, key=lambda y: body): T the tables of code objects -/
def sortWant (K : PySem.W.Frag) (T : List (Addr × Str)) (r : TKey) (σ : L2.St) (Q : VK) : V → Hp → Prop := fun x H1 => ∃ (p : Addr) (xs : List V) (ks : List Int), x = .ref p ∧ (SqL K H1 p xs ∨ SqT K H1 p xs) ∧ ks.length = xs.length ∧
  Tabs T H1 ∧ (∀ H2, ExtN H1 H2 → ∀ (i : Nat) (x : V) (k : Int), xs[i]? = some x → ks[i]? = some k → r σ H2 x k) ∧
  ∀ H2 D, ExtN H1 H2 → Tabs T H2 → H2 D = none → Q (.ref D) (upd H2 D (.lst ((isort (ks.zip xs)).map (·.2))))
def tSortLam (K : PySem.W.Frag) (T : List (Addr × Str)) (te : TE) (r : TKey) : TE := fun σ H Q => te σ H (sortWant K T r σ Q)
def one1 (g : V → Hp → Prop) : List V → Hp → Prop := fun vs H => match vs with
  | [x] => g x H
  | _ => False
theorem one1_of {g : V → Hp → Prop} {vs : List V} {H : Hp} (h : one1 g vs H) : ∃ x, vs = [x] ∧ g x H := by
  match vs, h with
  | [x], h => exact ⟨x, rfl, h⟩
theorem ns_one {h : Heap} {a : Addr} {m m' : Str → Option Value} (x : h.Ns a m) (y : h.Ns a m') : m = m' := by
  obtain ⟨o, es, ep, ho, hd, _, hm⟩ := x
  obtain ⟨o', es', ep', ho', hd', _, hm'⟩ := y
  rw [ho] at ho'
  cases ho'
  rw [hd] at hd'
  cases hd'
  funext z
  rw [← hm z, hm' z]
/-- a new object, all others kept but the frame's, whose names stay -/
theorem inv_laidL {X : Cx} {pins : List (Addr × Obj)} {σ : L2.St} {H : Hp} {s : Shared} {h' : Heap} {D tk : Nat} {o : HO} {m : Str → Option Value} (I : Inv X pins σ H s) (hn : s.heap.Ns X.env.locals m) (hn' : h'.Ns X.env.locals m)
    (k : ∀ b u, s.heap.get? b = some u → b ≠ X.env.locals → h'.get? b = some u) (hD : s.heap.objs.size ≤ D) (new : ObjOk X.prog X.w (upd H D o) h' D o) : Inv X pins σ (upd H D o) { s with heap := h', toks := tk } := by
  have fD : H D = none := I.hok.fresh hD
  have old : ∀ b u, s.heap.get? b = some u → b ≠ D := fun b u e => Nat.ne_of_lt (Nat.lt_of_lt_of_le (Heap.lt_size e) hD)
  have trL : ∀ b u, H b = some u → b ≠ X.env.locals := fun b u e => ne_of_none e I.free
  refine I.step (g' := s.gens) (d' := s.drawn) (t' := tk) (ch := []) (fun _ z => nomatch z) (fun b u nb _ _ e _ => k b u e nb) (fun b u nb _ _ e _ => ⟨u.slots, k b u e nb⟩) (fun b u _ e n => by rw [upd_ne (old b u e)]; exact n) (fun b u _ e => ?_)
    (fun b ys e => by rw [upd_ne (ne_of_none e fD)]; exact e) (fun b u v e => by rw [upd_ne (ne_of_none e fD)]; exact e) (fun b ps e => ⟨#[], by rw [upd_ne (ne_of_none e fD), e]; simp⟩) (fun m' hm => ?_) (fun b u e => ?_) I.bare
  · by_cases hb : b = X.env.locals
    · obtain ⟨ob, _, _, e1, _⟩ := hn'
      exact ⟨ob, by rw [hb]; exact e1⟩
    · exact ⟨u, k b u e hb⟩
  · rw [ns_one hm hn]
    exact hn'
  · by_cases hb : b = D
    · rw [hb, upd_same] at e
      cases e
      rw [hb]
      exact new
    · rw [upd_ne hb] at e
      refine (I.hok b u e).stay (fun c v hc q => k c v q ?_) (fun c q => by rw [upd_ne (ne_of_none q fD)]; exact q) fun c ys q => by rw [upd_ne (ne_of_none q fD)]; exact q
      rcases hc with z | z
      · rw [z]
        exact trL b u e
      · exact trL c _ z
theorem seq_at {X : Cx} {pins : List (Addr × Obj)} {σ : L2.St} {H : Hp} {s : Shared} {p : Addr} {xs : List V} (I : Inv X pins σ H s) (h : SqL X.K H p xs ∨ SqT X.K H p xs) :
    ∃ (its : List Value) (T : String) (o : Obj) (n : Nat), Vals xs its ∧ (T = "list" ∨ T = "tuple") ∧ s.heap.get? p = some o ∧ o.cls = .type T ∧ o.data = .seq its.toArray n ∧ xs.length ≤ sizeLine := by
  rcases h with h | h
  · obtain ⟨its, r, pl, hz⟩ := I.list h
    obtain ⟨o, ho, hc, n, hd⟩ := pl.isList
    exact ⟨its, "list", o, n, r, .inl rfl, ho, hc, hd, hz⟩
  · obtain ⟨its, r, ⟨o, ho, hc, n, hd⟩, hz⟩ := I.tuple h
    exact ⟨its, "tuple", o, n, r, .inr rfl, ho, hc, hd, hz⟩
theorem pe_sortLam {X : Cx} {T : List (Addr × Str)} {c P : Addr} {te : TE} {r : TKey} {e body : Expr} {params : Arguments} {scope : Scope} {par : Str} {p1 pos lpos kpos : Pos} (hr : Room 2 X.A) (TB : TabB X.base X.mg c P) (hcode : X.env.code = .ref c)
    (hm : (P, X.env.qual ++ "<lambda>") ∈ T) (hu : ∀ p ∈ T, p.1 = P → p.2 = X.env.qual ++ "<lambda>") (hg : Gl X "sorted") (hms : X.mg "sorted" = none) (lp : LamP X.env.scope scope par) (he : PE X e te) (hk : PKey X par body scope r)
    (hdef : defaultsOf params X.env = ([], []) := by rfl)
    (hb : ∀ (cl : List (Str × Addr)) (pm cdv ct v : Value), bindArgs (PySem.W.kla_fn "<lambda>" (X.env.qual ++ "<lambda>") params body scope cl pm cdv ct) ⟨[v], []⟩ = pure [(par, v)] := by intros; rfl)
    (h0 : starEach [e] X.env = (false, eval e X.env) :: starEach [] X.env := by rfl)
    (h1 : backTo pos (starEach [e] X.env) = (false, eval e X.env) :: backTo pos (starEach [] X.env) := by rfl) (h2 : (backTo pos (starEach [e] X.env)).any (·.1) = false := by rfl)
    (h3 : (backToKw pos (keywordEach [⟨some "key", .Lambda params body scope lpos, kpos⟩] X.env)).all (·.1.isSome) = true := by rfl) (h4 : (backToKw pos (keywordEach [⟨some "key", .Lambda params body scope lpos, kpos⟩] X.env)).any (·.1.isNone) = false := by rfl)
    (h5 : (backToKw pos (keywordEach [⟨some "key", .Lambda params body scope lpos, kpos⟩] X.env)).filterMap (·.1) = [Str.ofString "key"] := by rfl) :
    PE X (.Call (.Name "sorted" p1) [e] [⟨some "key", .Lambda params body scope lpos, kpos⟩] pos) (tSortLam X.K T te r) := by
  have hpa : PA X [e] (tCons te tNil) := pa_cons he pa_nil h0
  refine ⟨fun pins s σ H Q I h => ?_⟩
  refine wpAny_Call_Name_kw (ld_blt I hg hms (by decide +kernel : bootBuiltins "sorted" = some (.builtin "sorted")) ?_)
  refine PyProof.Rows.callWith_kw (thn (hpa.run pos pins s σ H (one1 (sortWant X.K T r σ Q)) I h) fun us s1 hs1 => ?_) h1 h2 h3 h4
  obtain ⟨vs, H1, I1, rv, hq⟩ := hs1
  obtain ⟨x, rfl, hq⟩ := one1_of hq
  obtain ⟨p, xs, ks, rfl, hsq, hlk, hT, hR, q⟩ := hq
  obtain ⟨u1, rfl, ru⟩ := vals1 rv
  cases (show u1 = Value.ref p from ru)
  rw [h5]
  show wpAny _ _ (evalAll ((do let v ← eval (.Lambda params body scope lpos) X.env; standAt pos; pure v) :: [])) _ _ s1
  refine wpAny_evalAll_cons (wpAny_bind (lam_make2 I1 TB hcode hm hu hT hdef (lp.has I1.ok) fun f c' pm ctv H2 s2 I2 eN T2 hf hfn hfs hc => wpAny_bind (wpAny_standAt (wpAny_pure (wpAny_pure ?_)))))
  show wpAny _ _ (call (.builtin "sorted") [.ref p] [(Str.ofString "key", .ref f)]) _ _ s2
  have hsq2 : SqL X.K H2 p xs ∨ SqT X.K H2 p xs := by
    rcases hsq with ((z | ⟨o, z⟩) | z) | ((z | ⟨o, z⟩) | z)
    · exact .inl (.inl (.inl (eN _ _ z (fun _ y => nomatch y))))
    · exact .inl (.inl (.inr ⟨o, eN _ _ z (fun _ y => nomatch y)⟩))
    · exact .inl (.inr z)
    · exact .inr (.inl (.inl (eN _ _ z (fun _ y => nomatch y))))
    · exact .inr (.inl (.inr ⟨o, eN _ _ z (fun _ y => nomatch y)⟩))
    · exact .inr (.inr z)
  obtain ⟨its, Ty, o, n, rI, hTy, ho, hcl, hd, hz⟩ := seq_at I2 hsq2
  have hli := rI.length
  refine PyProof.Rows.call_function_entry_kw kind_sorted plain_sorted entry_sorted (ksk_s1 _ _) ?_
  show wpAny _ _ (checkCount "sorted" 1 1 1 >>= fun _ => collect (.ref p) >>= fun vs => newList vs >>= fun l => holding [l] (call (.builtin "list.sort") [l] [(Str.ofString "key", .ref f)]) >>= fun _ => ret l) _ _ _
  refine wpAny_bind (m := checkCount "sorted" 1 1 1) (wpAny_pure (wpAny_bind (wpAny_collect_seq p hTy ho hcl hd (fun h' kp => ?_) (by rw [List.size_toArray]; omega))))
  have e1 : its.toArray.toList = its := by simp
  rw [e1]
  have I3 : Inv X pins σ H2 { s2 with heap := h', toks := s2.toks } := I2.kept kp
  obtain ⟨m, F⟩ := I3.fr
  have N := news_all (g := X.base) (h := h') (L := X.env.locals)
  have keepAll : ∀ {hh : Heap} {mm : Str → Option Value} {own : List (Addr × Obj)}, Fr X.base X.env.locals hh mm → News X.base X.env.locals hh (allNews X.base h' X.env.locals ++ own) → ∀ b ob, h'.get? b = some ob → b ≠ X.env.locals → hh.get? b = some ob := by
    intro hh mm own F' N' b ob eb nb
    cases q : X.base.get? b with
    | some ob' =>
      have := I3.bk b ob' q
      rw [eb] at this
      cases this
      exact F'.keep b _ q
    | none => exact (N' (b, ob) (List.mem_append_left _ (mem_allNews nb q eb))).1
  have hr1 : Room 1 X.A.in1 := hr.in1
  refine sort_tail (kz := ks) F N (by rw [hlk, hli]) (by rw [← hli]; exact hz) (fun i v k hv hk' hh tk own F' N' => ?_) fun hh tk out cc F' N' ko => ?_
  · have hi : i < its.length := (List.getElem?_eq_some_iff.mp hv).1
    obtain ⟨x, hx⟩ : ∃ x, xs[i]? = some x := ⟨_, List.getElem?_eq_getElem (by omega)⟩
    obtain ⟨v', hv', rx⟩ := rI.get hx
    have ev : v' = v := Option.some.inj (hv'.symm.trans hv)
    subst ev
    have nfL : f ≠ X.env.locals := fun z => by
      obtain ⟨mL, ⟨oL, _, _, eL, dL, _⟩, _⟩ := I2.loc
      rw [← z, hf] at eL
      cases eL
      cases dL
    have hff := keepAll F' N' f _ (kp _ _ hf) nfL
    obtain ⟨⟨oc, cv, ct, d1, d2, d3⟩, _, _⟩ := I2.hok c' _ hc
    have hcc := keepAll F' N' c' _ (kp _ _ d1) (ne_of_none hc I2.free)
    refine wpAny_call (PySem.W.kla_callFunE hr.in1.in1.depth hff rfl lp.co lp.gen rfl ⟨c', oc, cv, ct, rfl, hcc, d2, d3⟩ ?_)
    rw [hb]
    refine wpAny_pure (wpAny_newFunctionEnv lp.cell (fun y hy => ?_) (fun h₁ hns hsb => ⟨(I2.ok.mod.nolimit.keeps F'.keep).fresh _ hsb, ?_⟩) lp.kind)
    · rw [List.mem_singleton.mp hy]
      exact lp.par
    · have kp1 : ∀ b ob, hh.get? b = some ob → h₁.get? b = some ob := fun b ob e => hsb.extBut b ob (Nat.ne_of_lt (Heap.lt_size e)) (Heap.get?_push_of_some _ e)
      show codeAny _ _ (.expr body (PySem.W.envX (X.env.qual ++ "<lambda>") scope hh.objs.size f (.ref c') (cloFrom X.env.cells scope.names []))) _ _
      refine PySem.W.kla_codeExpr (wpAny_mono (hk.run pins _ σ H2 x v' k I3 rx (hR H2 eN i x k hx hk') _ hh.objs.size f c' h₁ (tk + 1) (fun b ob e nb => kp1 b ob (keepAll F' N' b ob e nb)) hns) (fun v s' hq => ?_) fun _ _ z => z.elim)
      obtain ⟨t, tk', ev, es⟩ := hq
      exact ⟨h₁, tk', t, es, ev, ⟨F'.ns.keeps kp1, fun b ob e => kp1 b ob (F'.keep b ob e), F'.above⟩, fun z hz => ⟨kp1 _ _ (N' z hz).1, (N' z hz).2⟩⟩
  · obtain ⟨ys, r2, ey⟩ := out_of (by rw [hlk, hli]) rI ko
    have lo : ys.length = xs.length := by
      rw [ey, List.length_map, (isort_perm _).length_eq, List.length_zip, hlk, Nat.min_self]
    have at1 := (N' _ List.mem_cons_self).1
    have I4 := inv_laidL (D := h'.objs.size) (tk := tk) (o := .lst ys) I3 F.ns F'.ns (fun b ob e nb => keepAll (own := []) F' (fun z hz => N' z (List.mem_cons_of_mem _ (by simpa using hz))) b ob e nb) (Nat.le_refl _)
      ⟨by rw [lo]; exact hz, out.toList, cc, r2, by rw [Array.toArray_toList]; exact at1⟩
    refine ⟨_, rfl, .ref h'.objs.size, _, I4, rfl, ?_⟩
    rw [ey]
    exact q H2 h'.objs.size eN T2 (I3.hok.fresh (Nat.le_refl _))
end OwnR

set_option Elab.async false
set_option linter.all false
set_option maxRecDepth 100000
set_option maxHeartbeats 2000000
namespace OwnR
open PySem PySem.Spec PyProof.Rows L2 LamX
/-! ### two bodies of keys: d[y], d captured; y[n] of a tuple -/
/-- what is read of a tracked object stays where all but the frame is kept -/
theorem ok_keepL {X : Cx} {pins : List (Addr × Obj)} {σ : L2.St} {H : Hp} {s : Shared} {h' : Heap} {b : Addr} {u : HO} (I : Inv X pins σ H s) (k : ∀ b o, s.heap.get? b = some o → b ≠ X.env.locals → h'.get? b = some o) (e : H b = some u) : ObjOk X.prog X.w H h' b u := by
  refine (I.hok b u e).stay (fun c v hc q => k c v q ?_) (fun _ q => q) fun _ _ q => q
  rcases hc with z | z
  · rw [z]
    exact ne_of_none e I.free
  · exact ne_of_none z I.free
theorem rd_keepL {X : Cx} {pins : List (Addr × Obj)} {σ : L2.St} {H : Hp} {s : Shared} {h' : Heap} {b : Addr} {u : HO} (I : Inv X pins σ H s) (k : ∀ b o, s.heap.get? b = some o → b ≠ X.env.locals → h'.get? b = some o) (e : Rd H b u) : ObjOk X.prog X.w H h' b u := by
  rcases e with e | ⟨o, e⟩
  · exact ok_keepL I k e
  · exact (ok_keepL I k e).2
def keyDict (j : Nat) : TKey := fun σ H x k => ∃ (a : Addr) (kvs : List (Key × V)) (key : Key), σ[j]? = some (some (.ref a)) ∧ Rd H a (.dK kvs) ∧ x = kV key ∧ valV kvs key = some (.int k)
theorem pk_dict {X : Cx} {par d : Str} {scope : Scope} {p1 p2 p3 : Pos} {j : Nat} (hN : X.N[j]? = some d) (hd : (d, NameKind.free) ∈ scope.names) (hl : scope.names.lookup d = some .free) (lp : LamP X.env.scope scope par)
    (hv : Vis X.env.scope d) (n1 : (d == ("__debug__" : Str)) = false := by decide) (n2 : (par == ("__debug__" : Str)) = false := by decide) (n3 : (d == ("__classdict__" : Str)) = false := by decide) (hsl : NoSl (.Name par p2) := by exact fun _ _ => rfl) :
    PKey X par (.Subscript (.Name d p1) (.Name par p2) p3) scope (keyDict j) := by
  refine ⟨fun pins s σ H x u k I rx hr A L' f c' h1 tk kp hns => ?_⟩
  obtain ⟨a, kvs, key, hs, hrd, ex, hval⟩ := hr
  subst ex
  have hfree := lp.has I.ok
  obtain ⟨m, hm, hlook⟩ := I.loc
  obtain ⟨w', rw', lk⟩ := hlook j d (.ref a) hN hs hv
  cases (show w' = Value.ref a from rw')
  have kd : X.env.scope.names.lookup d = some .cell ∨ X.env.scope.names.lookup d = some .free := lp.free _ hd rfl
  obtain ⟨c, hc, hcell⟩ : ∃ c, X.env.cells.lookup d = some c ∧ s.heap.IsCell c (some (.ref a)) := by
    rcases lk with ⟨k1, _⟩ | ⟨_, c, hc, z⟩
    · have k1 : X.env.scope.names.lookup d = some .local := k1
      rcases kd with k2 | k2 <;> rw [k2] at k1 <;> cases k1
    · exact ⟨c, hc, z⟩
  have hcell' : h1.IsCell c (some (.ref a)) := by
    obtain ⟨o, ho, hd'⟩ := hcell
    exact ⟨o, kp c o ho (I.cne d c hc), hd'⟩
  have hclo : (cloFrom X.env.cells scope.names []).lookup d = some c := NdefX.clo_has hfree hd hc
  obtain ⟨z, hsm, vs, rel, dd⟩ := (show ObjOk X.prog X.w H h1 a (.dK kvs) from rd_keepL I kp hrd)
  obtain ⟨w2, hw, rw2⟩ := RelO.some_of (v := .int k) (o := valueAt vs key) (by rw [← hval]; exact rel.val key)
  obtain ⟨t, rfl⟩ := (show ∃ t, w2 = Value.int k t from rw2)
  have tdict : ∀ tk', ({ s with heap := h1, toks := tk' } : Shared).TypeIs (.ref a) "dict" := fun tk' => (dd.mapOf).typeIs
  refine subD_of PySem.F.slot_dict_getitem.lookup hsl (wpAny_Name (wpAny_loadName_free lp.kind hl hclo hcell' ?_ n3) n1)
  refine wpAny_Name (wpAny_loadName_local (v := u) lp.kind lp.par hns ?_ ?_) n2
  · show ([(par, u)] : List (Str × Value)).reverse.lookup par = some u
    simp [List.lookup]
  · exact ⟨tdict _, wpAny_getItem_of (kV_is rx) dd.mapOf hw ⟨t, _, rfl, rfl⟩⟩
def keyItem (K : PySem.W.Frag) (n : Nat) : TKey := fun σ H x k => ∃ (t : Addr) (ys : List V), x = .ref t ∧ SqT K H t ys ∧ ys[n]? = some (.int k)
theorem pk_item {X : Cx} {par : Str} {scope : Scope} {p1 p2 p3 : Pos} {n j : Nat} (lp : LamP X.env.scope scope par) (hn : n < 1000) (n2 : (par == ("__debug__" : Str)) = false := by decide) :
    PKey X par (.Subscript (.Name par p1) (.Constant (.int (n : Int)) j p2) p3) scope (keyItem X.K n) := by
  refine ⟨fun pins s σ H x u k I rx hr A L' f c' h1 tk kp hns => ?_⟩
  obtain ⟨t, ys, ex, hsq, hy⟩ := hr
  subst ex
  cases (show u = Value.ref t from rx)
  have hit : ∃ its : List Value, Vals ys its ∧ IsTup h1 t its.toArray ∧ ys.length ≤ sizeLine := by
    rcases hsq with z | z
    · obtain ⟨hz, its, r, it⟩ := (show ObjOk X.prog X.w H h1 t (.tup ys) from rd_keepL I kp z)
      exact ⟨its, r, it, hz⟩
    · obtain ⟨its, r, ⟨o, ho, hc, n', hd⟩, hz⟩ := I.tuple (.inr z)
      refine ⟨its, r, ⟨o, kp _ _ ho ?_, hc, n', hd⟩, hz⟩
      intro zz
      obtain ⟨mL, ⟨oL, _, _, eL, dL, _⟩, _⟩ := I.loc
      rw [← zz, ho] at eL
      cases eL
      rw [hd] at dL
      cases dL
  obtain ⟨its, r, it, hz⟩ := hit
  obtain ⟨w2, hw, rw2⟩ := r.get hy
  obtain ⟨t', rfl⟩ := (show ∃ t, w2 = Value.int k t from rw2)
  have hl := r.length
  have hlt : n < ys.length := (List.getElem?_eq_some_iff.mp hy).1
  have hn63 := line63
  refine Subscript_ (wpAny_Name (wpAny_loadName_local lp.kind lp.par hns (v := Value.ref t) ?_ (wpAny_Constant_int ?_)) n2)
  · show ([(par, Value.ref t)] : List (Str × Value)).reverse.lookup par = some (Value.ref t)
    simp [List.lookup]
  · exact subscriptTail_builtinR (x := Value.int k t') it.typeIs slot_tuple_getitem.lookup
      (getItem_tuple (j := n) (Q := fun r s' => r = Value.int k t' ∧ ∃ t1 tk', r = Value.int k t1 ∧ s' = { s with heap := h1, toks := tk' }) it (by omega) (by omega)
        (by rw [List.size_toArray, ← hl, seqIndex_of (by omega) (by omega)]; simp) (by simpa using hw) ⟨rfl, t', _, rfl, rfl⟩) rfl
end OwnR

set_option Elab.async false
set_option linter.all false
set_option maxRecDepth 100000
set_option maxHeartbeats 2000000
namespace OwnR
open PySem PySem.Spec PyProof.Rows L2
section
variable {X : Cx} {CX : CXT} {k : Nat} {g C : Addr} {sp : Sp} {E : XK}
/-! ### y in x, y not in x: x an instance of C, which has __contains__ -/
def rInO (C : Addr) (sp : Sp) (E : XK) (neg : Bool) : R2 := fun x y H Q => ∃ a dx fs, y = .ref a ∧ H a = some (.ins C dx fs) ∧ sp [.ref a, x] H (fun z H' => ∃ b, z = .bl b ∧ Q (.bl (b != neg)) H') E
theorem op_inO (hs : PySem.W.findIn X.K (.ref C) "__contains__" = some (some (.ref g))) (hf : PySem.W.isFn X.K (.ref g) = true) (F : FnR X.prog X.w X.K X.mg X.base CX k g sp) (hr : Room k X.A) (hx : Passes CX X E) : OpR X (compareOp .In) (rInO C sp E false) := by
  intro pins s σ H x y v u Q I rx ry h
  obtain ⟨a, dx, fs, rfl, ha, q⟩ := h
  cases (show u = Value.ref a from ry)
  obtain ⟨ox, od, J, hd⟩ := StX.insC_at I (.inr ⟨dx, fs, ha⟩)
  obtain ⟨m, hF⟩ := I.fr
  refine PySem.W.in_K hF I.ok.mod.kin J hs hf (thn (wpAny_call (run_fnR (us := [.ref a, v]) (vs := [.ref a, x]) F hr hx I (.cons rfl (.cons rx .nil)) q)) fun w' s' hq => ?_)
  obtain ⟨z, H', I', rz, b, ez, qz⟩ := hq
  subst ez
  cases (show w' = Value.bool b from rz)
  exact wpAny_truthy_bool ⟨.bl b, H', I', rfl, by simpa using qz⟩
theorem op_notInO (hs : PySem.W.findIn X.K (.ref C) "__contains__" = some (some (.ref g))) (hf : PySem.W.isFn X.K (.ref g) = true) (F : FnR X.prog X.w X.K X.mg X.base CX k g sp) (hr : Room k X.A) (hx : Passes CX X E) : OpR X (compareOp .NotIn) (rInO C sp E true) := by
  intro pins s σ H x y v u Q I rx ry h
  obtain ⟨a, dx, fs, rfl, ha, q⟩ := h
  cases (show u = Value.ref a from ry)
  obtain ⟨ox, od, J, hd⟩ := StX.insC_at I (.inr ⟨dx, fs, ha⟩)
  obtain ⟨m, hF⟩ := I.fr
  refine PySem.W.notIn_K hF I.ok.mod.kin J hs hf (thn (wpAny_call (run_fnR (us := [.ref a, v]) (vs := [.ref a, x]) F hr hx I (.cons rfl (.cons rx .nil)) q)) fun w' s' hq => ?_)
  obtain ⟨z, H', I', rz, b, ez, qz⟩ := hq
  subst ez
  cases (show w' = Value.bool b from rz)
  exact wpAny_truthy_bool ⟨.bl (!b), H', I', rfl, by simpa using qz⟩
/-! ### o[i]: o an instance of C, which has __getitem__ -/
def tSubO (C : Addr) (sp : Sp) (E : XK) (to ti : TE) : TE := fun σ H Q => to σ H fun x H1 => ti σ H1 fun y H2 => ∃ a dx fs, x = .ref a ∧ H2 a = some (.ins C dx fs) ∧ sp [.ref a, y] H2 Q E
theorem pe_subO {o i : Expr} {pos : Pos} {to ti : TE} (hs : PySem.W.findIn X.K (.ref C) "__getitem__" = some (some (.ref g))) (hf : PySem.W.isFn X.K (.ref g) = true) (hfi : PySem.W.fnIn X.K g = true) (F : FnR X.prog X.w X.K X.mg X.base CX k g sp) (hr : Room (k + 1) X.A) (hx : Passes CX X E)
    (ho : PE X o to) (hi : PE X i ti) (hsl : ∀ a v, subscripted i true (.ref a) v = runValue (.builtin "lifetime.subscript" ⟨[.ref a, v], []⟩) := by intros; with_unfolding_all rfl) : PE X (.Subscript o i pos) (tSubO C sp E to ti) := by
  refine ⟨fun pins s σ H Q I h => ?_⟩
  refine Subscript_ (thn (ho.run pins s σ H _ I h) fun u s1 ⟨x, H1, I1, rx, q1⟩ => thn (hi.run pins s1 σ H1 _ I1 q1) fun iv s2 ⟨y, H2, I2, ry, a, dx, fs, ex, ha, q⟩ => ?_)
  subst ex
  cases (show u = Value.ref a from rx)
  obtain ⟨ox, od, J, hd⟩ := StX.insC_at I2 (.inr ⟨dx, fs, ha⟩)
  obtain ⟨m, hF⟩ := I2.fr
  exact PySem.W.sub_K hF I2.ok.mod.kin J hs hfi hf (wpAny_call (SlX.run_at (us := [.ref a, iv]) (ws := [.ref a, y]) F hr.in1 I2.env0.in1 hx I2 (.cons rfl (.cons ry .nil)) q)) (hsl a iv)
/-! ### len(o) -/
def rLenO (C : Addr) (sp : Sp) (E : XK) : List V → Hp → VK → Prop := fun xs H Q => ∃ a dx fs, xs = [V.ref a] ∧ H a = some (.ins C dx fs) ∧ sp [.ref a] H (fun z H' => ∃ n : Nat, z = .int (n : Int) ∧ n ≤ sizeLine ∧ Q (.int (n : Int)) H') E
theorem call_lenO (hs : PySem.W.findIn X.K (.ref C) "__len__" = some (some (.ref g))) (hf : PySem.W.isFn X.K (.ref g) = true) (F : FnR X.prog X.w X.K X.mg X.base CX k g sp) (hr : Room (k + 1) X.A) (hx : Passes CX X E) : CallR X (.builtin "len") (rLenO C sp E) := by
  intro pins s σ H xs us Q I r h
  obtain ⟨a, dx, fs, rfl, ha, q⟩ := h
  obtain ⟨u, rfl, ru⟩ := r.one
  cases (show u = Value.ref a from ru)
  obtain ⟨ox, od, J, hd⟩ := StX.insC_at I (.inr ⟨dx, fs, ha⟩)
  obtain ⟨m, hF⟩ := I.fr
  refine PySem.W.len_K hF I.ok.mod.kin J hs hf (thn (wpAny_call (SlX.run_at (us := [.ref a]) (ws := [.ref a]) F hr.in1 I.env0.in1 hx I (.cons rfl .nil) q)) fun w' s' hq => ?_)
  obtain ⟨z, H', I', rz, n, ez, hn, qz⟩ := hq
  subst ez
  obtain ⟨t, e⟩ := (show ∃ t, w' = Value.int (n : Int) t from rz)
  cases e
  have := line63
  exact ⟨⟨by omega, by omega⟩, .int (n : Int), H', I'.tok _, ⟨_, rfl⟩, qz⟩
/-! ### a + b, both of C, which has __add__ -/
def rAddO (C : Addr) (sp : Sp) (E : XK) : R2 := fun x y H Q => ∃ a dx fs b dy gs, x = .ref a ∧ y = .ref b ∧ H a = some (.ins C dx fs) ∧ H b = some (.ins C dy gs) ∧ sp [.ref a, .ref b] H Q E
theorem op_addO (hc : PySem.W.selfFirst X.K C = true) (hs : PySem.W.findIn X.K (.ref C) (PySem.dunder (Operator.info .Add).2) = some (some (.ref g))) (hf : PySem.W.isFn X.K (.ref g) = true) (F : FnR X.prog X.w X.K X.mg X.base CX k g sp) (hr : Room k X.A) (hx : Passes CX X E) : OpR X (binaryOp .Add) (rAddO C sp E) := by
  intro pins s σ H x y v u Q I rx ry h
  obtain ⟨a, dx, fs, b, dy, gs, rfl, rfl, ha, hb, q⟩ := h
  cases (show v = Value.ref a from rx)
  cases (show u = Value.ref b from ry)
  obtain ⟨ox, od, J, hd⟩ := StX.insC_at I (.inr ⟨dx, fs, ha⟩)
  obtain ⟨oy, od', J', hd'⟩ := StX.insC_at I (.inr ⟨dy, gs, hb⟩)
  obtain ⟨m, hF⟩ := I.fr
  refine PySem.W.binop_K (op := .Add) hF I.ok.mod.kin J J'.type hc hs hf (thn (wpAny_call (run_fnR (us := [.ref a, .ref b]) (vs := [.ref a, .ref b]) F hr hx I (.cons rfl (.cons rfl .nil)) q)) fun w' s' hq => ?_)
  obtain ⟨z, H', I', rz, qz⟩ := hq
  exact SlX.cmpback rz ⟨z, H', I', rz, qz⟩
/-! ### x(*y), x a slot that holds the class C -/
def tMakeLS (K : PySem.W.Frag) (C : Addr) (sp : Sp) (E : XK) (tf te : TE) : TE := fun σ H Q => tf σ H fun z H0 => z = .ref C ∧ te σ H0 fun y H1 => ∃ a xs, y = V.ref a ∧ (SqT K H1 a xs ∨ SqL K H1 a xs) ∧ ∀ x dx, H1 x = none → H1 dx = none → dx ≠ x →
  sp (V.ref x :: xs) (upd (upd H1 dx (.own x)) x (.ins C dx [])) (fun v H2 => v = .non ∧ Q (.ref x) H2) E
theorem pe_makeLS {x : Str} {e : Expr} {p p2 pos : Pos} {tf te : TE} {f : Addr} (M : Mk X.K C f) (F : FnR X.prog X.w X.K X.mg X.base CX k f sp) (hr : Room (k + 1) X.A) (hx : Passes CX X E) (hf : PE X (.Name x p) tf) (he : PE X e te)
    (hst : starEach [.Starred e p2] X.env = [(true, eval e X.env)] := by rfl) : PE X (.Call (.Name x p) [.Starred e p2] [] pos) (tMakeLS X.K C sp E tf te) := by
  refine ⟨fun pins s σ H Q I h => ?_⟩
  refine wpAny_Call_Name_kw (thn (hf.run pins s σ H _ I h) fun u s0 ⟨z, H0, I0, rz, ez, q0⟩ => ?_)
  subst ez
  cases (show u = Value.ref C from rz)
  refine PySem.W.callWith_S (h₀ := X.base) I.ok.mod.kin M.kp (thn (he.run pins s0 σ H0 _ I0 q0) fun v s1 ⟨y, H1, I1, ry, a, xs, ey, hxs, q⟩ => ?_) hst
  subst ey
  cases (show v = Value.ref a from ry)
  exact StX.star_any I1 hxs fun us s2 I2 rv => ⟨I2.kIn, StX.run_makeR M F hr hx I2 rv q⟩
end
/-- x(*y), x a class of the module -/
theorem pe_makeGS {X : Cx} {CX : CXT} {k : Nat} {C : Addr} {sp : Sp} {E : XK} {x : Str} {e : Expr} {p p2 pos : Pos} {te : TE} {f : Addr} (M : Mk X.K C f) (F : FnR X.prog X.w X.K X.mg X.base CX k f sp) (hr : Room (k + 1) X.A) (hx : Passes CX X E) (hg : Gl X x) (hm : X.mg x = some (.ref C)) (he : PE X e te)
    (hdb : (x == ("__debug__" : Str)) = false := by decide) (hst : starEach [.Starred e p2] X.env = [(true, eval e X.env)] := by rfl) : PE X (.Call (.Name x p) [.Starred e p2] [] pos) (tMakeLS X.K C sp E (tC (.ref C)) te) :=
  pe_makeLS M F hr hx (pe_glob hg hm rfl hdb) he hst
/-! ### xs[i] op= e, xs a list -/
theorem pg_list {X : Cx} : PGet X (rIxL X.K) := by
  intro pins s σ H x y v u Q I rx ry h
  obtain ⟨p, xs, i, z, rfl, rfl, hq, he, q⟩ := h
  cases (show v = Value.ref p from rx)
  obtain ⟨t, rfl⟩ := (show ∃ t, u = Value.int i t from ry)
  obtain ⟨its, r, pl, hz⟩ := I.list hq
  obtain ⟨j, h1, h2, h3, h4, h5⟩ := atI_get he
  obtain ⟨w, ew, rw'⟩ := r.get h2
  have hl := r.length
  have hn := line63
  have fin : EP X pins σ Q w s := ⟨z, H, I, rw', q⟩
  by_cases h0 : 0 ≤ i
  · have hj : i.toNat = j := by
      rw [seqIndex_of h0 h5] at h1
      exact Option.some.inj h1
    exact wpAny_getItem_list pl.isList h0 (by omega) (by rw [hj]; simpa using ew) fin
  · have hj : (i + (its.toArray.size : Int)).toNat = j := by
      rw [seqIndex_neg (by omega) h4] at h1
      rw [List.size_toArray, ← hl]
      exact Option.some.inj h1
    exact wpAny_getItem_list_neg pl.isList (by omega) (by rw [List.size_toArray] <;> omega) (by omega) (by rw [hj]; simpa using ew) fin
end OwnR

set_option Elab.async false
set_option linter.all false
set_option maxRecDepth 100000
namespace Sl
open PySem L2
def top (i : Nat) : Stmt := PySem.Challenge.pw_slowleaders_k01_roads_and_their_signs.main.body.getD i (.Pass ⟨0, 0, 0, 0⟩)
abbrev sRoadError : Stmt := top 1
abbrev sInvalidRoad : Stmt := top 2
abbrev sInvalidRoadInit : Stmt := inClass sInvalidRoad 0
abbrev sInvalidCars : Stmt := top 3
abbrev sInvalidCarsInit : Stmt := inClass sInvalidCars 0
abbrev sInvalidNumber : Stmt := top 4
abbrev sUnknownCar : Stmt := top 5
abbrev sUnknownCarInit : Stmt := inClass sUnknownCar 0
abbrev sUnknownSection : Stmt := top 6
abbrev sUnknownSectionInit : Stmt := inClass sUnknownSection 0
abbrev sIsNumber : Stmt := top 8
abbrev sIsSection : Stmt := top 15
abbrev sUnitsOf : Stmt := top 16
abbrev sRuns : Stmt := top 17
abbrev sRoad : Stmt := top 18
abbrev sRInit : Stmt := inClass sRoad 0
abbrev sROfUnits : Stmt := inClass sRoad 1
abbrev sRSections : Stmt := inClass sRoad 2
abbrev sRUnits : Stmt := inClass sRoad 3
abbrev sRWidened : Stmt := inClass sRoad 4
abbrev sRLen : Stmt := inClass sRoad 5
abbrev sRGet : Stmt := inClass sRoad 6
abbrev sRHas : Stmt := inClass sRoad 8
abbrev sRAdd : Stmt := inClass sRoad 9
abbrev sRMul : Stmt := inClass sRoad 10
abbrev sREq : Stmt := inClass sRoad 11
abbrev sDice : Stmt := top 20
abbrev sNext : Stmt := top 21
abbrev sPick : Stmt := top 22
abbrev sTold : Stmt := top 23
abbrev sParts : Stmt := top 24
abbrev sMade : Stmt := top 25
abbrev sLetters : Stmt := top 26
abbrev sRoadOf : Stmt := top 27
abbrev sLaw : Stmt := top 28
end Sl

set_option Elab.async false
set_option linter.all false
set_option maxRecDepth 100000
set_option maxHeartbeats 1000000
namespace Sl
open PySem PySem.Spec L2 OwnR
theorem yes_of {σ : L2.St} {H : Hp} {A S : Hp → Prop} (h : A H) : tYes σ H (fun b H3 => if b = true then A H3 else S H3) := by
  show (if true = true then A H else S H)
  rw [if_pos rfl]
  exact h
/-- the module's names that the program asks: built-ins that stand, its constants -/
structure Mg (mg : Str → Option Value) : Prop where
  isinstance : mg "isinstance" = none
  int : mg "int" = none
  bool : mg "bool" = none
  str : mg "str" = none
  tuple : mg "tuple" = none
  len : mg "len" = none
  all : mg "all" = none
  enumerate : mg "enumerate" = none
  sorted : mg "sorted" = none
  list : mg "list" = none
  range : mg "range" = none
  sum : mg "sum" = none
  mostSections : ∃ t, mg "MOST_SECTIONS" = some (.int 12 t)
  longestSection : ∃ t, mg "LONGEST_SECTION" = some (.int 99 t)
theorem boot_isinstance : bootBuiltins "isinstance" = some (.builtin "isinstance") := by decide +kernel
theorem boot_tInt : bootBuiltins "int" = some (.type "int") := by decide +kernel
theorem boot_tBool : bootBuiltins "bool" = some (.type "bool") := by decide +kernel
theorem boot_tStr : bootBuiltins "str" = some (.type "str") := by decide +kernel
theorem boot_tTuple : bootBuiltins "tuple" = some (.type "tuple") := by decide +kernel
theorem boot_all : bootBuiltins "all" = some (.builtin "all") := by decide +kernel
section
variable {P : Program} {w : World} {K : PySem.W.Frag} {mg : Str → Option Value} {base : Heap}
/-! ### is_number of an int -/
def spIsNumber : Sp := fun vs H Q _ => ∃ i lo hi : Int, vs = [.int i, .int lo, .int hi] ∧ Q (.bl (decide (lo ≤ i) && decide (i ≤ hi))) H
theorem scIsNumber : FnScope ["value", "least", "most"] ["value", "least", "most"] (defScope sIsNumber) := ⟨rfl, rfl, rfl, by decide +kernel, rfl, by decide +kernel, by decide +kernel⟩
theorem ok_isNumber {f : Addr} {fd : FuncData} (F : Fun K "is_number" "is_number" sIsNumber f fd) (M : Mg mg) : FnOk P w K mg base CX0 1 f fd ["value", "least", "most"] spIsNumber := by
  refine F.ok scIsNumber (fun vs H Q E h => ?_) (fun cdv A outer s H vs Q E hr h => ?_)
  · obtain ⟨i, lo, hi, rfl, _⟩ := h
    rfl
  · obtain ⟨i, lo, hi, rfl, k⟩ := h
    refine ⟨_, pss_one (ps_ret (pe_and (pe_callB call_isi (by rfl) M.isinstance boot_isinstance (pa_cons (pv 0) (pa_cons (pe_bltn (v := .ty "int") (by rfl) M.int boot_tInt rfl) pa_nil)))
      (pe_and (pe_not (pe_callB call_isi (by rfl) M.isinstance boot_isinstance (pa_cons (pv 0) (pa_cons (pe_bltn (v := .ty "bool") (by rfl) M.bool boot_tBool rfl) pa_nil))))
        (pe_one (pe_chain op_le op_le (pv 1) (pv 0) (pv 2)))))), ?_⟩
    refine ⟨_, rfl, _, _, _, _, true, rfl, .ty _, .base (.int i), kit_ty (by decide +kernel), true, rfl, iteT ?_⟩
    refine ⟨_, rfl, _, _, _, _, false, rfl, .ty _, .base (.int i), kit_ty (by decide +kernel), false, rfl, true, rfl, iteT ?_⟩
    refine ⟨_, rfl, _, rfl, lo, i, rfl, rfl, _, rfl, ?_⟩
    by_cases h1 : lo ≤ i
    · rw [decide_eq_true h1] at k ⊢
      exact iteT ⟨_, rfl, i, hi, rfl, rfl, by simpa using k⟩
    · rw [decide_eq_false h1] at k ⊢
      exact iteF (by simpa using k)
theorem lt_one (a b : Nat) : decide ([a] < [b]) = decide (a < b) := by
  rw [decide_eq_decide]
  simp [List.cons_lt_cons_iff]
/-! ### is_name of a text that is a name -/
def NameOk (z : Str) : Prop := 1 ≤ z.length ∧ z.length ≤ 8 ∧ ∀ c ∈ z.cps.toList, 97 ≤ c ∧ c ≤ 122
def spIsName : Sp := fun vs H Q _ => ∃ z : Str, vs = [.str z] ∧ NameOk z ∧ ∀ H', Same H H' → Q (.bl true) H'
end
end Sl

set_option Elab.async false
set_option linter.all false
set_option maxRecDepth 100000
set_option maxHeartbeats 1000000
namespace Sl
open PySem PySem.Spec L2 OwnR
/-- a def of the module, as callers want it -/
structure Fb (K : PySem.W.Frag) (mg : Str → Option Value) (x : Str) (st : Stmt) (ps : List Str) (f : Addr) (fd : FuncData) : Prop where
  fn : Fun K x x st f fd
  at_ : mg x = some (.ref f)
  bd : Binds K fd ps []
section
variable {P : Program} {w : World} {K : PySem.W.Frag} {mg : Str → Option Value} {base : Heap}
/-! ### is_car of a tuple that is a car -/
structure Car where
  name : Str
  start : Int
  pace : Int
def Car.vs (c : Car) : List V := [.str c.name, .int c.start, .int c.pace]
structure Car.Ok (c : Car) : Prop where
  nm : NameOk c.name
  s0 : 0 ≤ c.start
  s1 : c.start ≤ 1000000
  p0 : 1 ≤ c.pace
  p1 : c.pace ≤ 60
def spIsCar : Sp := fun vs H Q _ => ∃ (t : Addr) (c : Car), vs = [.ref t] ∧ H t = some (.tup c.vs) ∧ c.Ok ∧ ∀ H', Same H H' → Q (.bl true) H'
/-! ### check_cars of a tuple of cars -/
def CarsAt (H : Hp) (a : Addr) (cars : List Car) : Prop := ∃ ts : List Addr, H a = some (.tup (ts.map V.ref)) ∧ ts.length = cars.length ∧ ∀ (i : Nat) (t : Addr) (c : Car), ts[i]? = some t → cars[i]? = some c → H t = some (.tup c.vs)
structure CarsOk (cars : List Car) : Prop where
  all : ∀ c ∈ cars, c.Ok
  nd : (cars.map (·.name)).Nodup
  few : cars.length ≤ 10
theorem CarsAt.same {H H' : Hp} {a : Addr} {cars : List Car} (h : CarsAt H a cars) (e : Same H H') : CarsAt H' a cars := by
  obtain ⟨ts, h1, h2, h3⟩ := h
  exact ⟨ts, e _ _ h1, h2, fun i t c e1 e2 => e _ _ (h3 i t c e1 e2)⟩
end
end Sl

set_option Elab.async false
set_option linter.all false
set_option maxRecDepth 100000
set_option maxHeartbeats 2000000
namespace OwnR
open PySem PySem.Spec PyProof.Rows L2
/-! ### enumerate(t), t a tuple -/
abbrev enumObj (n : Nat) : Obj := { cls := .type "enumerate", data := .fields #[.none, .bool false, .ref n, rawInt 0, .none, .none] }
theorem enum_make {v : Value} {o : Obj} {G : Heap → Prop} (B : Begins v o G) : Meets (Builtin.«enumerate.__new__» ⟨[.type "enumerate", v], []⟩) (fun _ R s => G s.heap ∧ R (.ok (.ret (.ref (s.heap.push o).objs.size))) { s with heap := (s.heap.push o).push (enumObj s.heap.objs.size) }) := by
  refine .of_wp fun prog w A R s hs => ?_
  obtain ⟨hp, g, d, tk, os⟩ := s
  obtain ⟨hG, hR⟩ := hs
  have isE := sub_enumerate
  have it1 : ∀ {A' : Around} {E' Q' : Value → Shared → Prop}, Q' (.ref hp.objs.size) ⟨hp.push o, g, d, tk, os⟩ → wpAny (model prog w) A' (pyIter v) (fun a b => Q' a b) (fun a b => E' a b) ⟨hp, g, d, tk, os⟩ := fun q => B.iter prog w _ _ ⟨hp, g, d, tk, os⟩ _ hG q
  wp_walk using it1
  refine wpAny_stack_any fun st => wpAny_pure ?_
  split
  · rename_i c _ _ _ _ _
    cases (c == Value.type "enumerate") <;> (wp_walk using it1; exact ⟨_, rfl, hR⟩)
  · wp_walk using it1
    exact ⟨_, rfl, hR⟩
section
variable {prog : Program} {w : World} {A : Around} {E : Value → Shared → Prop} {s : Shared}
theorem enum_tuple {t : Addr} {items : Array Value} {Q : Value → Shared → Prop} (ht : s.heap.IsTuple t items)
    (h : ∀ h', IsEnum h' (s.heap.objs.size + 1) s.heap.objs.size 0 .none → h'.IsTupleIter s.heap.objs.size t 0 → (∀ b o, s.heap.get? b = some o → h'.get? b = some o) → Q (.ref (s.heap.objs.size + 1)) { s with heap := h' }) :
    wpAny (model prog w) A (call (.type "enumerate") [.ref t]) Q E s := by
  have sz : ∀ o : Obj, (s.heap.push o).objs.size = s.heap.objs.size + 1 := fun o => Heap.size_push ..
  refine callType_new F.called_enumerate (by decide) (F.typeCall_enumerate_1 _) (F.newCall_enumerate_1 _) (fun _ => F.args_object_init_2 _ _) F.entry_enumerate_new (enum_make (begins_tuple t items)) ⟨ht, ?_⟩
  have he : ((s.heap.push { cls := .type "tuple_iterator", data := .fields #[.ref t, .int 0 0] }).push (enumObj s.heap.objs.size)).get? (s.heap.objs.size + 1) = some (enumObj s.heap.objs.size) := by
    have q := Heap.get?_push_size (s.heap.push { cls := .type "tuple_iterator", data := .fields #[.ref t, .int 0 0] }) (o := enumObj s.heap.objs.size) rfl
    rw [sz] at q
    exact q
  show _ ∧ _
  rw [sz]
  exact ⟨⟨_, he, rfl⟩, h _ he ⟨_, Heap.get?_push_of_some _ (Heap.get?_push_size _ rfl), rfl, rfl⟩ fun b o x => Heap.get?_push_of_some _ (Heap.get?_push_of_some _ x)⟩
end
/-- the tuple at a as it stands at each turn, each item in a new pair -/
def IteT (K : PySem.W.Frag) (a : Addr) (N : Nat) : It :=
  ⟨fun i H => ∃ (xs : List V) (x : V), SqT K H a xs ∧ xs[i]? = some x ∧ xs.length = N,
   fun i H v H' => ∃ T x, v = .ref T ∧ H T = none ∧ H' = upd H T (.tup [.int (i : Nat), x]) ∧ ∀ xs, SqT K H a xs → xs[i]? = some x,
   fun i H => ∃ xs : List V, SqT K H a xs ∧ xs.length ≤ i ∧ xs.length = N⟩
theorem tup_ne {h : Heap} {a it : Addr} {items : Array Value} {i : Nat} (p : h.IsTuple a items) (q : h.IsTupleIter it a i) : a ≠ it := by
  intro e
  obtain ⟨o, ho, hc, _⟩ := p
  obtain ⟨o', ho', hc', _⟩ := q
  rw [e, ho'] at ho
  cases ho
  rw [hc'] at hc
  injection hc with z
  exact absurd z (by decide)
theorem turn_enumT {P : Program} {w : World} {K : PySem.W.Frag} {elts : List Expr} {kk : Nat} {tpos : Pos} (a e it : Addr) (N : Nat) (nea : e ≠ a) :
    Turn P w K (.Tuple elts kk tpos) (IteT K a N) [e, it] e (fun i h => (∃ old, IsEnum h e it ((i : Nat) : Int) old) ∧ h.IsTupleIter it a i ∧ e ≠ it ∧ i ≤ N) where
  mem := List.mem_cons_self
  obj := fun i h st b hb => by
    obtain ⟨⟨old, he⟩, ⟨o, ho, hc, hd⟩, _⟩ := st
    rcases List.mem_cons.mp hb with z | z
    · exact ⟨_, by rw [z]; exact he, fun v q => by cases q⟩
    · exact ⟨o, by rw [List.mem_singleton.mp z]; exact ho, fun v q => by rw [hd] at q; cases q⟩
  keep := fun i h h' st k => by
    obtain ⟨⟨old, he⟩, ⟨o, ho, r⟩, hne, le⟩ := st
    exact ⟨⟨old, k e (by simp) _ he⟩, ⟨o, k it (by simp) o ho, r⟩, hne, le⟩
  item := by
    intro X hP hw hK hc i pins s σ H E I hf st hg
    subst hP hw hK
    obtain ⟨⟨old, he⟩, hit, hne, le⟩ := st
    obtain ⟨xs, x, hq, hx, eN⟩ := hg
    obtain ⟨its, rv, p, hz⟩ := I.tuple hq
    obtain ⟨u, hu, ru⟩ := rv.get hx
    have lo : i < its.toArray.size := by
      rw [List.size_toArray]
      exact (List.getElem?_eq_some_iff.mp hu).1
    have hel : e < s.heap.objs.size := Heap.lt_size he
    have hil : it < s.heap.objs.size := by
      obtain ⟨_, q, _⟩ := hit
      exact Heap.lt_size q
    have hd : X.A.in1.handled = none := I.ok.hd hc
    have D := Draws.tuple (prog := X.prog) (w := X.w) hd it a (tup_ne p hit) its.toArray
    refine wpAny_pyNext_enum_itemC D he ⟨hit, p⟩ lo hne (by simp [hne, nea]) fun y h' tk hy ho st2 hT hsz hk => ⟨_, rfl, wpAny_letOwnedTupleGo_enum (s := { s with heap := h', toks := tk + 1 }) ho fun h2 he2 sb => ?_⟩
    have ey : y = u := by
      have hy : its.toArray[i]? = some y := hy
      have : its[i]? = some y := by simpa using hy
      rw [hu] at this
      exact (Option.some.inj this).symm
    subst ey
    have hT2 : h2.get? s.heap.objs.size = some { cls := .type "tuple", data := .seq #[.int i tk, y] } := (sb.2 _ (Nat.ne_of_gt hel)).trans hT
    have new : ObjOk X.prog X.w (upd H s.heap.objs.size (.tup [.int (i : Nat), x])) h2 s.heap.objs.size (.tup [.int (i : Nat), x]) :=
      ⟨by show 2 ≤ sizeLine; decide, [.int i tk, y], .cons ⟨_, rfl⟩ (.cons ru .nil), ⟨_, hT2, rfl, _, rfl⟩⟩
    have J : Inv X pins σ (upd H s.heap.objs.size (.tup [.int (i : Nat), x])) { s with heap := h2, toks := tk + 1 } :=
      I.turnedNew (ch := [e, it]) (fun b ob hb q => (sb.2 b (fun z => hb (by simp [z]))).trans (hk b ob (fun z => hb (by simp [z])) (fun z => hb (by simp [z])) q)) hf (Nat.le_refl _) new
    have hi2 : h2.IsTupleIter it a (i + 1) := by
      obtain ⟨⟨o, h1, h3⟩, _⟩ := st2
      exact ⟨o, (sb.2 it (Ne.symm hne)).trans h1, h3⟩
    refine ⟨.ref s.heap.objs.size, _, J, rfl, ⟨_, x, rfl, I.hok.fresh (Nat.le_refl _), rfl, fun ys hy => by rw [I.tuple_inj hy hq]; exact hx⟩, ⟨⟨y, ?_⟩, hi2, hne, by have := (List.getElem?_eq_some_iff.mp hx).1; omega⟩, fun b hb => ?_⟩
    · rw [show ((i + 1 : Nat) : Int) = (i : Int) + 1 by omega]
      exact he2
    · have hb' : b < s.heap.objs.size := by
        rcases List.mem_cons.mp hb with z | z
        · rw [z]; exact hel
        · rw [List.mem_singleton.mp z]; exact hil
      rw [upd_ne (Nat.ne_of_lt hb')]
      exact (hf b hb).1
  done := by
    intro X hP hw hK hc i pins s σ H E I hf st hg
    subst hP hw hK
    obtain ⟨⟨old, he⟩, hit, hne, le⟩ := st
    obtain ⟨xs, hq, hx, eN⟩ := hg
    obtain ⟨its, rv, p, hz⟩ := I.tuple hq
    obtain ⟨f0, f1, f2, f3, f4, f5⟩ := hf it (by simp)
    have hl := rv.length
    have hd : X.A.in1.handled = none := I.ok.hd hc
    have D := Draws.tuple (prog := X.prog) (w := X.w) hd it a (tup_ne p hit) its.toArray
    have ei : i = its.toArray.size := by
      rw [List.size_toArray]
      omega
    rw [ei] at hit he
    exact wpAny_pyNext_enum_endD D he ⟨hit, p⟩ fun h' eb => ⟨rfl, I.turned (t' := s.toks) (fun b o hb q => eb b o hb q) f0 f1 f3 f4 f5⟩
  self := fun A i s Q E st h => let ⟨⟨_, he⟩, _⟩ := st; wpAny_pyIter_enum he h
def iEnumT (K : PySem.W.Frag) (ta : TA) : TI := fun σ H R => ta σ H fun vs H1 => ∃ a xs, vs = [.ref a] ∧ SqT K H1 a xs ∧ R (IteT K a xs.length) H1
theorem pi_enumT {X : Cx} {e : Expr} {ta : TA} {p pos tpos : Pos} {elts : List Expr} {kk : Nat} (hg : Gl X "enumerate") (hm : X.mg "enumerate" = none) (ha : PA X [e] ta) (hs : starEach [e] X.env = [(false, eval e X.env)] := by rfl) :
    PI X (.Tuple elts kk tpos) (.Call (.Name "enumerate" p) [e] [] pos) (iEnumT X.K ta) := by
  refine ⟨fun pins s σ H R I h => ?_⟩
  refine Call_ (ld_blt I hg hm boot_enumerate (PyProof.Rows.callWith_type1 (thn (ha.run pos pins s σ H _ I h) fun us s1 ⟨vs, H1, I1, r1, a, xs, ex, hq, q⟩ => ?_) hs rfl))
  subst ex
  obtain ⟨u, rfl, ru⟩ := r1.one
  cases (show u = Value.ref a from ru)
  obtain ⟨its, rv, p', hz⟩ := I1.tuple hq
  refine enum_tuple (items := its.toArray) p' fun h' he hit hk => wpAny_pyIter_enum he ?_
  have I2 : Inv X pins σ H1 { s1 with heap := h' } := I1.kept (t' := s1.toks) hk
  have la : a < s1.heap.objs.size := by
    obtain ⟨o, ho, _⟩ := p'
    exact Heap.lt_size ho
  refine ⟨s1.heap.objs.size + 1, [s1.heap.objs.size + 1, s1.heap.objs.size], _, _, H1, rfl, I2, turn_enumT a (s1.heap.objs.size + 1) s1.heap.objs.size xs.length (Nat.ne_of_gt (Nat.lt_succ_of_lt la)), ⟨⟨.none, he⟩, hit, Nat.succ_ne_self _, Nat.zero_le _⟩, fun b hb => ?_, q⟩
  have hle : s1.heap.objs.size ≤ b := by
    rcases List.mem_cons.mp hb with z | z
    · rw [z]
      exact Nat.le_succ _
    · rw [List.mem_singleton.mp z]
      exact Nat.le_refl _
  exact I1.fpOk hle (I1.hok.fresh hle)
theorem walk_enumT {K : PySem.W.Frag} {a : Addr} {xs : List V} : Walk (IteT K a xs.length) xs.length (fun H => SqT K H a xs) (YPair (fun i => some (.int (i : Nat))) fun i => xs[i]?) :=
  ⟨fun i _ hi q => ⟨xs, xs[i], q, by simp [hi], rfl⟩, fun _ q => ⟨xs, q, Nat.le_refl _, rfl⟩, fun i H x H' hi q y => by
    obtain ⟨T, z, e1, e2, e3, e4⟩ := y
    exact ⟨T, .int (i : Nat), z, e1, e2, e3, rfl, e4 xs q⟩⟩
end OwnR

set_option Elab.async false
set_option linter.all false
set_option maxRecDepth 100000
set_option maxHeartbeats 1000000
namespace Sl
open PySem PySem.Spec L2 OwnR
theorem eqV_str (a b : Str) : eqV (.str a) (.str b) = decide (a = b) := by
  show (a == b) = decide (a = b)
  by_cases h : a = b
  · rw [h]; simp
  · rw [decide_eq_false h]; simpa using h
theorem inV_str (x : Str) (l : List Str) : inV (.str x) (l.map V.str) = decide (x ∈ l) := by
  unfold inV
  induction l with
  | nil => simp
  | cons y r ih =>
    rw [List.map_cons, List.any_cons, ih, eqV_str]
    by_cases h : y = x
    · subst h; simp
    · have h2 : ¬ x = y := fun z => h z.symm
      simp [h, h2]
theorem tk1 {α : Type} {l : List α} {i : Nat} {x : α} (h : l[i]? = some x) : l.take (i + 1) = l.take i ++ [x] := by
  rw [List.take_add_one, h]
  rfl
theorem flat_strs (l : List Str) : (l.map V.str).all flatV = true := by
  induction l with
  | nil => rfl
  | cons y r ih => rw [List.map_cons, List.all_cons, ih]; rfl
section
variable {P : Program} {w : World} {K : PySem.W.Frag} {mg : Str → Option Value} {base : Heap}
def spCheckCars : Sp := fun vs H Q _ => ∃ (a : Addr) (cars : List Car), vs = [.ref a] ∧ CarsAt H a cars ∧ CarsOk cars ∧ ∀ H', Same H H' → Q .non H'
end
end Sl

set_option Elab.async false
set_option linter.all false
set_option maxRecDepth 100000
set_option maxHeartbeats 1000000
namespace Sl
open PySem PySem.Spec L2 OwnR LamX
/-- a def whose code object's address is known -/
structure FunC (K : PySem.W.Frag) (x qual : Str) (st : Stmt) (f : Addr) (fd : FuncData) (c : Addr) : Prop where
  ex : ∃ (oc : Value) (od : Option Addr) (kV doc pm : Value) (an : Option Addr) (ct : Value) (osl : Array (Option Value)),
    fd = PySem.W.fnOf x qual (defArgs st) (defBody st) (defScope st) .none kV doc pm an (.ref c) ct ∧ K.lookup f = some ⟨oc, od, .func fd, osl⟩ ∧ PySem.W.codeIn K (.ref c) qual = true
  kp : PySem.W.keepIn K (.ref f) = true
section
variable {P : Program} {w : World} {K : PySem.W.Frag} {mg : Str → Option Value} {base : Heap}
theorem FunC.ok {x qual : Str} {st : Stmt} {f c : Addr} {fd : FuncData} {N ps : List Str} {k : Nat} {sp : Sp} (F : FunC K x qual st f fd c) (S : FnScope N ps (defScope st)) (len : ∀ vs H Q E, sp vs H Q E → vs.length = ps.length)
    (hbody : ∀ (A : Around) (outer : List Env) (s : Shared) (H : Hp) (vs : List V) (Q : VK) (E : XK), Room k (A.deeper (PyProof.Rows.envOfC qual (defScope st) s.heap.objs.size f (.ref c))) → sp vs H Q E →
      ∃ t, PSs (cxOf CX0 P w K mg base N qual (defScope st) f (.ref c) A outer s H E).nox (defBody st) t ∧ t { nx := fun _ H' => Q .non H', rt := Q } (start N vs) H) : FnOk P w K mg base CX0 (k + 1) f fd ps sp := by
  obtain ⟨oc, od, kV, doc, pm, an, ct, osl, rfl, lk, hcd⟩ := F.ex
  refine fn_of lk hcd S len fun A outer s H vs Q E hr hsp => ?_
  obtain ⟨t, h, q⟩ := hbody A outer s H vs Q E hr hsp
  exact ⟨t, h.nox, q⟩
structure FbC (K : PySem.W.Frag) (mg : Str → Option Value) (x : Str) (st : Stmt) (ps : List Str) (f : Addr) (fd : FuncData) (c : Addr) : Prop where
  fn : FunC K x x st f fd c
  at_ : mg x = some (.ref f)
  bd : Binds K fd ps []
/-- what stands behind a step that may have made code objects -/
theorem ExtN.same {H H' : Hp} (e : Same H H') : ExtN H H' := fun b o h _ => e b o h
theorem ExtN.lst {H H' : Hp} (e : ExtN H H') {a : Addr} {xs : List V} (h : H a = some (.lst xs)) : H' a = some (.lst xs) := e _ _ h (fun _ z => nomatch z)
theorem ExtN.tup {H H' : Hp} (e : ExtN H H') {a : Addr} {xs : List V} (h : H a = some (.tup xs)) : H' a = some (.tup xs) := e _ _ h (fun _ z => nomatch z)
theorem ExtN.dK {H H' : Hp} (e : ExtN H H') {a : Addr} {xs : List (Key × V)} (h : H a = some (.dK xs)) : H' a = some (.dK xs) := e _ _ h (fun _ z => nomatch z)
theorem ExtN.ins {H H' : Hp} (e : ExtN H H') {a C d : Addr} {xs : List (Str × V)} (h : H a = some (.ins C d xs)) : H' a = some (.ins C d xs) := e _ _ h (fun _ z => nomatch z)
theorem ExtN.sqT {H H' : Hp} (e : ExtN H H') {a : Addr} {xs : List V} (h : SqT K H a xs) : SqT K H' a xs := by
  rcases h with (h | ⟨o, h⟩) | h
  · exact .inl (.inl (e _ _ h fun _ z => nomatch z))
  · exact .inl (.inr ⟨o, e _ _ h fun _ z => nomatch z⟩)
  · exact .inr h
theorem ExtN.sqL {H H' : Hp} (e : ExtN H H') {a : Addr} {xs : List V} (h : SqL K H a xs) : SqL K H' a xs := by
  rcases h with (h | ⟨o, h⟩) | h
  · exact .inl (.inl (e _ _ h fun _ z => nomatch z))
  · exact .inl (.inr ⟨o, e _ _ h fun _ z => nomatch z⟩)
  · exact .inr h
theorem CarsAt.ext {H H' : Hp} {a : Addr} {cars : List Car} (h : CarsAt H a cars) (e : ExtN H H') : CarsAt H' a cars := by
  obtain ⟨ts, h1, h2, h3⟩ := h
  exact ⟨ts, ExtN.tup e h1, h2, fun i t c e1 e2 => ExtN.tup e (h3 i t c e1 e2)⟩
/-! ### _in_order -/
/-- nothing that was tracked, but tables, stands at D -/
def New (H : Hp) (D : Addr) : Prop := ∀ b o, H b = some o → (∀ ps, o ≠ .tbl ps) → b ≠ D
theorem New.of {H : Hp} {D : Addr} (h : H D = none) : New H D := fun b o e _ => ne_of_none e h
theorem New.ext {H H' : Hp} {D : Addr} (e : ExtN H H') (h : New H' D) : New H D := fun b o x n => h b o (e b o x n) n
theorem zip_self (tk : Str → Int) : ∀ names : List Str, (names.map tk).zip (names.map V.str) = (names.map fun n => (tk n, n)).map fun q => (q.1, V.str q.2)
  | [] => rfl
  | n :: r => by
    simp only [List.map_cons, List.zip_cons_cons]
    rw [zip_self tk r]
def qInOrder : Str := ("_in_order" : Str) ++ (".<locals>." : Str) ++ ("<lambda>" : Str)
def spInOrder (K : PySem.W.Frag) (T : List (Addr × Str)) : Sp := fun vs H Q _ => ∃ (p d : Addr) (names : List Str) (kvs : List (Key × V)) (tk : Str → Int), vs = [.ref p, .ref d] ∧ SqL K H p (names.map V.str) ∧ H d = some (.dK kvs) ∧
  (∀ n ∈ names, valV kvs (.inr n) = some (.int (tk n))) ∧ Tabs T H ∧ ∀ H' D, ExtN H H' → Tabs T H' → New H D → H' D = some (.lst ((sortBy tk names).map V.str)) → Q (.ref D) H'
end
end Sl

/-! The mathematics of driving: rows of (name, tick, leader) behind a section. -/
namespace Sl
open OwnR
section
variable {N : Type} [DecidableEq N]
abbrev RowT (N : Type) := N × Int × Option N
/-- one more car enters a narrow section -/
def fnext (free : N → Int) (acc : List (RowT N)) (n : N) : RowT N :=
  match acc.getLast? with
  | none => (n, free n, none)
  | some (a, t, l) => if free n < t then (n, t, some (l.getD a)) else (n, free n, none)
def foll (free : N → Int) (order : List N) : List (RowT N) := order.foldl (fun acc n => acc ++ [fnext free acc n]) []
theorem fnext_name (free : N → Int) (acc : List (RowT N)) (n : N) : (fnext free acc n).1 = n := by
  unfold fnext
  split
  · rfl
  · split <;> rfl
theorem foll_snoc (free : N → Int) (order : List N) (n : N) : foll free (order ++ [n]) = foll free order ++ [fnext free (foll free order) n] := by
  unfold foll
  rw [List.foldl_append]
  rfl
theorem foll_names (free : N → Int) (order : List N) : (foll free order).map (·.1) = order := by
  have h : ∀ (l : List N) (acc : List (RowT N)), (l.foldl (fun acc n => acc ++ [fnext free acc n]) acc).map (·.1) = acc.map (·.1) ++ l := by
    intro l
    induction l with
    | nil => intro acc; simp
    | cons n r ih =>
      intro acc
      rw [List.foldl_cons, ih, List.map_append, List.append_assoc]
      simp [fnext_name]
  have := h order []
  simpa [foll] using this
theorem foll_length (free : N → Int) (order : List N) : (foll free order).length = order.length := by
  have := congrArg List.length (foll_names free order)
  simpa using this
/-- what a row list tells of a name -/
def look (acc : List (RowT N)) (n : N) : Option (Int × Option N) := (acc.find? fun r => decide (r.1 = n)).map (·.2)
theorem look_nil (n : N) : look ([] : List (RowT N)) n = none := rfl
theorem look_none {acc : List (RowT N)} {n : N} (h : n ∉ acc.map (·.1)) : look acc n = none := by
  unfold look
  rw [List.find?_eq_none.mpr]
  · rfl
  · intro r hr
    simp only [decide_eq_true_eq]
    intro e
    exact h (List.mem_map.mpr ⟨r, hr, e⟩)
theorem look_snoc (acc : List (RowT N)) (r : RowT N) (m : N) (h : r.1 ∉ acc.map (·.1)) : look (acc ++ [r]) m = if m = r.1 then some r.2 else look acc m := by
  by_cases e : m = r.1
  · subst e
    have h1 : acc.find? (fun x => decide (x.1 = r.1)) = none := by
      rw [List.find?_eq_none]
      intro x hx
      simp only [decide_eq_true_eq]
      exact fun z => h (List.mem_map.mpr ⟨x, hx, z⟩)
    unfold look
    rw [List.find?_append, h1]
    simp
  · rw [if_neg e]
    unfold look
    rw [List.find?_append]
    have h1 : ([r] : List (RowT N)).find? (fun x => decide (x.1 = m)) = none := by
      have : ¬ r.1 = m := fun z => e z.symm
      simp [this]
    rw [h1]
    simp
theorem look_get {acc : List (RowT N)} (nd : (acc.map (·.1)).Nodup) {i : Nat} {r : RowT N} (h : acc[i]? = some r) : look acc r.1 = some r.2 := by
  induction acc generalizing i with
  | nil => simp at h
  | cons a l ih =>
    rw [List.map_cons, List.nodup_cons] at nd
    cases i with
    | zero =>
      have e : a = r := by simpa using h
      subst e
      unfold look
      simp
    | succ j =>
      have hj : l[j]? = some r := by simpa using h
      have hm : r.1 ∈ l.map (·.1) := List.mem_map.mpr ⟨r, List.mem_of_getElem? hj, rfl⟩
      have hne : ¬ a.1 = r.1 := fun z => nd.1 (z ▸ hm)
      have := ih nd.2 hj
      unfold look at this ⊢
      rw [List.find?_cons, decide_eq_false hne]
      exact this
theorem look_some {acc : List (RowT N)} {n : N} (h : n ∈ acc.map (·.1)) : ∃ x, look acc n = some x := by
  obtain ⟨r, hr, e⟩ := List.mem_map.mp h
  unfold look
  cases q : acc.find? (fun r => decide (r.1 = n)) with
  | none =>
    rw [List.find?_eq_none] at q
    have := q r hr
    simp [e] at this
  | some z => exact ⟨z.2, rfl⟩
def tickOf (acc : List (RowT N)) (n : N) : Int := ((look acc n).map (·.1)).getD 0
def leadOf (acc : List (RowT N)) (n : N) : Option N := (look acc n).bind (·.2)
end
end Sl

set_option Elab.async false
set_option linter.all false
set_option maxRecDepth 100000
set_option maxHeartbeats 1000000
namespace Sl
open PySem PySem.Spec L2 OwnR LamX
theorem key_eq (a b : Str) : ((Sum.inr a : Key) = Sum.inr b) = (a = b) := by
  refine propext ⟨fun h => Sum.inr.inj h, fun h => congrArg _ h⟩
/-- a dict of ticks, a dict of leaders, as the rows tell -/
def TkD (kvs : List (Key × V)) (acc : List (RowT Str)) : Prop := ∀ n, valV kvs (Sum.inr n : Key) = (look acc n).map fun x => V.int x.1
def LdD (kvs : List (Key × V)) (acc : List (RowT Str)) : Prop := ∀ n, valV kvs (Sum.inr n : Key) = (look acc n).bind fun x => x.2.map V.str
theorem valV_putS (kvs : List (Key × V)) (k j : Str) (y : V) : valV (putK kvs (Sum.inr k : Key) y) (Sum.inr j : Key) = if j = k then some y else valV kvs (Sum.inr j : Key) := by
  rw [valV_put]
  by_cases e : j = k
  · rw [if_pos e, if_pos (congrArg _ e)]
  · rw [if_neg e, if_neg (fun z => e (Sum.inr.inj z))]
theorem gk {H : Hp} {a : Addr} {kvs : List (Key × V)} {n : Str} {v : V} (e : H a = some (.dK kvs)) (h : valV kvs (Sum.inr n : Key) = some v) : DGet H a (.str n) (some v) := by
  have q := DGet.k (k := (Sum.inr n : Key)) e
  rw [h] at q
  exact q
theorem gk0 {H : Hp} {a : Addr} {kvs : List (Key × V)} {n : Str} {o : Option V} (e : H a = some (.dK kvs)) (h : valV kvs (Sum.inr n : Key) = o) : DGet H a (.str n) o := by
  have q := DGet.k (k := (Sum.inr n : Key)) e
  rw [h] at q
  exact q
theorem look_last {acc : List (RowT Str)} (nd : (acc.map (·.1)).Nodup) {r : RowT Str} (h : acc.getLast? = some r) : look acc r.1 = some r.2 := by
  rw [List.getLast?_eq_getElem?] at h
  exact look_get nd h
theorem TkD.put {kvs : List (Key × V)} {acc : List (RowT Str)} {r : RowT Str} (h : TkD kvs acc) (hn : r.1 ∉ acc.map (·.1)) : TkD (putK kvs (Sum.inr r.1 : Key) (.int r.2.1)) (acc ++ [r]) := by
  intro m
  rw [valV_putS, look_snoc acc r m hn]
  by_cases e : m = r.1
  · rw [if_pos e, if_pos e]; rfl
  · rw [if_neg e, if_neg e]; exact h m
theorem TkD.put2 {kvs : List (Key × V)} {acc : List (RowT Str)} {r : RowT Str} {y : V} (h : TkD kvs acc) (hn : r.1 ∉ acc.map (·.1)) : TkD (putK (putK kvs (Sum.inr r.1 : Key) y) (Sum.inr r.1 : Key) (.int r.2.1)) (acc ++ [r]) := by
  intro m
  rw [valV_putS, valV_putS, look_snoc acc r m hn]
  by_cases e : m = r.1
  · rw [if_pos e, if_pos e]; rfl
  · rw [if_neg e, if_neg e, if_neg e]; exact h m
theorem LdD.put {kvs : List (Key × V)} {acc : List (RowT Str)} {r : RowT Str} {l : Str} (h : LdD kvs acc) (hn : r.1 ∉ acc.map (·.1)) (hl : r.2.2 = some l) : LdD (putK kvs (Sum.inr r.1 : Key) (.str l)) (acc ++ [r]) := by
  intro m
  rw [valV_putS, look_snoc acc r m hn]
  by_cases e : m = r.1
  · rw [if_pos e, if_pos e]; simp [hl]
  · rw [if_neg e, if_neg e]; exact h m
theorem LdD.skip {kvs : List (Key × V)} {acc : List (RowT Str)} {r : RowT Str} (h : LdD kvs acc) (hn : r.1 ∉ acc.map (·.1)) (hl : r.2.2 = none) : LdD kvs (acc ++ [r]) := by
  intro m
  rw [look_snoc acc r m hn]
  by_cases e : m = r.1
  · rw [if_pos e, h m, e, look_none hn]; simp [hl]
  · rw [if_neg e]; exact h m
section
variable {P : Program} {w : World} {K : PySem.W.Frag} {mg : Str → Option Value} {base : Heap}
def spFollow (K : PySem.W.Frag) : Sp := fun vs H Q _ => ∃ (p d : Addr) (order : List Str) (kvs : List (Key × V)) (fr : Str → Int), vs = [.ref p, .ref d] ∧ SqL K H p (order.map V.str) ∧ H d = some (.dK kvs) ∧
  (∀ n ∈ order, valV kvs (Sum.inr n : Key) = some (.int (fr n))) ∧ order.Nodup ∧ order.length ≤ 100 ∧
  ∀ H' t L G kL kG, Same H H' → H L = none → H G = none → L ≠ G → H' t = some (.tup [.ref L, .ref G]) → H' L = some (.dK kL) → H' G = some (.dK kG) → TkD kL (foll fr order) → LdD kG (foll fr order) → Q (.ref t) H'
def aheadV (acc : List (RowT Str)) : V := match acc.getLast? with
  | none => .non
  | some r => .str r.1
end
end Sl

set_option Elab.async false
set_option linter.all false
set_option maxRecDepth 100000
set_option maxHeartbeats 1000000
namespace OwnR
open PySem PySem.Spec PyProof.Rows L2
theorem fold_flat : ∀ (l : List (Array Nat)) (acc : Array Nat), (l.foldl (· ++ ·) acc).toList = acc.toList ++ (l.map (·.toList)).flatten
  | [], acc => by simp
  | a :: r, acc => by
    rw [List.foldl_cons, fold_flat r, List.map_cons, List.flatten_cons]
    simp
/-- z * n, a text repeated, n from 1 -/
def rRepS : R2 := fun x y H Q => ∃ (z : Str) (n : Nat), x = .str z ∧ y = .int (n : Int) ∧ 1 ≤ n ∧ n ≤ 1000000 ∧ z.length * n ≤ 1000000 ∧ ∀ u : Str, u.cps.toList = (List.replicate n z.cps.toList).flatten → Q (.str u) H
theorem line_big : 1000000 ≤ sizeLine := by decide
theorem op_repS {X : Cx} : OpR X (binaryOp .Mult) rRepS := by
  intro pins s σ H x y v u Q I rx ry h
  obtain ⟨z, n, rfl, rfl, h1, hn, hz, q⟩ := h
  obtain ⟨t, rfl⟩ := (show ∃ t, v = Value.str z t from rx)
  obtain ⟨t', rfl⟩ := (show ∃ t, u = Value.int (n : Int) t from ry)
  have hn1 : ¬ (n : Int) < 1 := by omega
  have hzl : (z.length : Int) * (n : Int) ≤ 1000000 := by
    rw [← Int.natCast_mul]
    generalize z.length * n = mm at hz
    omega
  refine P.mul_str (by
      rw [decide_eq_false (by omega : ¬ (n : Int) < -(2 ^ 63)), decide_eq_false (by omega : ¬ (n : Int) ≥ 2 ^ 63)]
      rfl) (fun _ hne => ?_) (fun _ hne => ?_) ?_
  · have e1 : (z.length : Int) ≤ (2 ^ 63 - 1 : Int) / (n : Int) := by
      refine Int.le_ediv_of_mul_le (by omega) ?_
      exact Int.le_trans hzl (by decide)
    exact Int.not_lt.mpr e1
  · unfold Builtin.Str.tooLong
    have e2 : z.length * (n : Int).toNat ≤ sizeLine := by
      have : (n : Int).toNat = n := by omega
      rw [this]
      exact Nat.le_trans hz line_big
    simp only [decide_eq_false_iff_not]
    omega
  · rw [if_neg hn1]
    split
    · rename_i hb
      have hb : (n : Int) = 1 ∨ z.length = 0 := by simpa using hb
      refine ⟨.str z, H, I, ⟨t, rfl⟩, q z ?_⟩
      rcases hb with hb | hb
      · have : n = 1 := by omega
        subst this
        simp
      · have hl : z.cps.toList = [] := by
          have : z.cps.toList.length = 0 := by simpa [Str.length] using hb
          exact List.length_eq_zero_iff.mp this
        rw [hl]
        simp
    · have en : (n : Int).toNat = n := by omega
      rw [en]
      have ec : (⟨(List.replicate n z.cps).foldl (· ++ ·) #[]⟩ : Str).cps.toList = (List.replicate n z.cps.toList).flatten := by
        show ((List.replicate n z.cps).foldl (· ++ ·) #[]).toList = _
        rw [fold_flat, List.map_replicate]
        simp
      refine ⟨?_, .str _, H, I.tok _, ⟨_, rfl⟩, q _ ec⟩
      have : (⟨(List.replicate n z.cps).foldl (· ++ ·) #[]⟩ : Str).length = z.length * n := by
        show ((List.replicate n z.cps).foldl (· ++ ·) #[]).size = z.cps.size * n
        rw [← Array.length_toList, fold_flat, List.map_replicate]
        simp [Nat.mul_comm]
      rw [this]
      exact Nat.le_trans hz line_big
/-! ### d.get(k), d a written dict that has k -/
def tKGet1 (K : PySem.W.Frag) (w : World) (td ty : TE) : TE := fun σ H Q => td σ H fun x H1 => ∃ p, x = .ref p ∧ (p == sysModules) = false ∧ (∃ z0 v0, KDct K w p z0 v0) ∧ ty σ H1 fun y H2 => ∃ (z : Str) (v : V), y = .str z ∧ KDct K w p z v ∧ Q v H2
theorem pe_kget1 {X : Cx} {o e : Expr} {apos cpos : Pos} {td ty : TE} (ho : PE X o td) (he : PE X e ty) (m : M1 X o "get" apos e cpos) : PE X (.Call (.Attribute o "get" apos) [e] [] cpos) (tKGet1 X.K X.w td ty) := by
  refine ⟨fun pins s σ H Q I h => ?_⟩
  refine wpAny_Call_method m.base m.few m.line PySem.F.plainAttrs_dict PySem.F.slot_dict_get PySem.F.type_dict_get (thn (ho.run pins s σ H _ I h) fun u s1 ⟨x, H1, I1, rx, p, ex, np, ⟨z0, v0, es0, n0, u0, hl0, hk0, e0, _⟩, q1⟩ => ?_)
  subst ex
  cases (show u = Value.ref p from rx)
  have hm0 := PySem.W.mapOf_K (prog := X.prog) (w := X.w) I1.kIn hl0 hk0
  refine ⟨hm0.typeIs, fun b q => ?_, ?_⟩
  · cases q
    exact ⟨_, I1.kIn _ _ hl0, rfl⟩
  rw [m.trees]
  refine Calls.callWith_builtin rfl (Calls.evalArgs_plain (Calls.spliced_cons (thn (he.run pins s1 σ H1 _ I1 q1) fun iv s2 ⟨y, H2, I2, ry, z, v, ey, kd, q2⟩ => Calls.spliced_nil ?_)))
  subst ey
  obtain ⟨es, n, u1, hl, hk, e1, ru⟩ := kd
  obtain ⟨t, rfl⟩ := (show ∃ t, iv = Value.str z t from ry)
  have hm := PySem.W.mapOf_K (prog := X.prog) (w := X.w) I2.kIn hl hk
  have hf := PySem.W.find_K hl e1
  refine call_meetsIn PySem.F.slot_dict_get hm.typeIs PySem.F.entry_dict_get (PySem.F.args_dict_get_2 _ _) (meets_dict_get (strKind X.prog X.w) p (strKind_is X.prog X.w z t) np) ⟨_, hm, ?_⟩
  rw [hf]
  exact ⟨v, H2, I2.tok _, ru, q2⟩
/-! ### a dict comprehension over any walk -/
theorem dc_it {J : It} {n : Nat} {G : Hp → Prop} {Y : Nat → Hp → V → Hp → Prop} (wk : Walk J n G Y) {g : TG} {tt : TT} {tk tv : TE} {vs : List Nat} {σ : L2.St} {H1 : Hp} {D : Addr} {Qd : Hp → Prop} (Pv : Nat → Hp → Prop) (h0 : Pv 0 (upd H1 D (.dK []))) (hG : ∀ i H, i ≤ n → Pv i H → G H)
    (hs : ∀ i x H H', i < n → Pv i H → Y i H x H' → g x (wipe σ vs) H' fun σ2 H2 => wipe σ2 vs = wipe σ vs ∧ tt σ2 H2 fun b H3 =>
      if b = true then tk σ2 H3 fun y H4 => tv σ2 H4 fun z H5 => ∃ kvs k, y = kV k ∧ H5 D = some (.dK kvs) ∧ kvs.length < sizeLine ∧ Pv (i + 1) (upd H5 D (.dK (putK kvs k z))) else Pv (i + 1) H3) (hd : ∀ H, Pv n H → Qd H) :
    ∃ W : Nat → Nat → Hp → Prop, (∃ m, W 0 m (upd H1 D (.dK []))) ∧ ∀ i m H, W i m H →
      (J.stop i H ∧ Qd H) ∨ (J.go i H ∧ ∃ Nx : Hp → Prop, (∀ H', Nx H' → ∃ m', m' < m ∧ W (i + 1) m' H') ∧ ∀ x H', J.yld i H x H' → g x (wipe σ vs) H' fun σ2 H2 => wipe σ2 vs = wipe σ vs ∧ tt σ2 H2 fun b H3 =>
        if b = true then tk σ2 H3 fun y H4 => tv σ2 H4 fun z H5 => ∃ kvs k, y = kV k ∧ H5 D = some (.dK kvs) ∧ kvs.length < sizeLine ∧ Nx (upd H5 D (.dK (putK kvs k z))) else Nx H3) := by
  refine ⟨fun i m H => m + i = n ∧ Pv i H, ⟨n, by omega, h0⟩, ?_⟩
  rintro i m H ⟨em, p⟩
  have hi : i ≤ n := by omega
  have g0 := hG i H hi p
  rcases Nat.lt_or_ge i n with lt | ge
  · exact .inr ⟨wk.goes i H lt g0, Pv (i + 1), fun H' p' => ⟨n - (i + 1), by omega, by omega, p'⟩, fun x H' y => hs i x H H' lt p (wk.yields i H x H' lt g0 y)⟩
  · have ei : i = n := by omega
    subst ei
    exact .inl ⟨wk.stops H g0, hd H p⟩
end OwnR

set_option Elab.async false
set_option linter.all false
set_option maxRecDepth 100000
set_option maxHeartbeats 1000000
namespace Sl
open PySem PySem.Spec L2 OwnR LamX
/-- a section: whether it is wide, its length -/
abbrev Sec := Bool × Nat
def kindS (b : Bool) : Str := if b then "wide" else "narrow"
def letterC (b : Bool) : Nat := if b then 119 else 110
def secV (s : Sec) : List V := [.str (kindS s.1), .int (s.2 : Nat)]
def SecsAt (H : Hp) (a : Addr) (secs : List Sec) : Prop := ∃ ts : List Addr, H a = some (.tup (ts.map V.ref)) ∧ ts.length = secs.length ∧ ∀ (i : Nat) (t : Addr) (s : Sec), ts[i]? = some t → secs[i]? = some s → H t = some (.tup (secV s))
theorem SecsAt.ext {H H' : Hp} {a : Addr} {secs : List Sec} (h : SecsAt H a secs) (e : ExtN H H') : SecsAt H' a secs := by
  obtain ⟨ts, h1, h2, h3⟩ := h
  exact ⟨ts, ExtN.tup e h1, h2, fun i t c e1 e2 => ExtN.tup e (h3 i t c e1 e2)⟩
structure SecsOk (secs : List Sec) : Prop where
  ne : secs ≠ []
  few : secs.length ≤ 12
  len : ∀ s ∈ secs, 1 ≤ s.2 ∧ s.2 ≤ 99
section
variable {P : Program} {w : World} {K : PySem.W.Frag} {mg : Str → Option Value} {base : Heap}
def spIsSection : Sp := fun vs H Q _ => ∃ (t : Addr) (s : Sec), vs = [.ref t] ∧ H t = some (.tup (secV s)) ∧ 1 ≤ s.2 ∧ s.2 ≤ 99 ∧ ∀ H', Same H H' → Q (.bl true) H'
theorem scIsSection : FnScope ["value", "kind", "length"] ["value"] (defScope sIsSection) := ⟨rfl, rfl, rfl, by decide +kernel, rfl, by decide +kernel, by decide +kernel⟩
theorem ok_isSection {f fB : Addr} {fd dB : FuncData} (F : Fb K mg "_is_section" sIsSection ["value"] f fd) (M : Mg mg) (BB : Fb K mg "is_number" sIsNumber ["value", "least", "most"] fB dB)
    (GB : FnOk P w K mg base CX0 1 fB dB ["value", "least", "most"] spIsNumber) : FnOk P w K mg base CX0 2 f fd ["value"] spIsSection := by
  obtain ⟨t1, M1⟩ := M.longestSection
  refine F.fn.ok scIsSection (fun vs H Q E h => ?_) (fun cdv A outer s H vs Q E hr h => ?_)
  · obtain ⟨t, c, rfl, _⟩ := h
    rfl
  · obtain ⟨t, c, rfl, ht, c1, c2, k⟩ := h
    have nd := scIsSection.nd
    refine ⟨_, pss_cons (ps_if (PW.pt (pw_or (pt_not (pt_val (pe_callB call_isi (by rfl) M.isinstance boot_isinstance (pa_cons (pv 0) (pa_cons (pe_bltn (v := .ty "tuple") (by rfl) M.tuple boot_tTuple rfl) pa_nil)))))
        (pw_or1 (pt_cmpR op_ne (pe_callB call_len_seq (by rfl) M.len boot_len (pa_cons (pv 0) pa_nil)) pe_int (nomark _))))) (pss_one (ps_ret pe_bl)) pss_nil)
      (pss_cons (ps_asg (pv 0) (pg_tup (by rfl) (pgs_cons (pg_name (i := 1) nd rfl (.inl rfl)) (pgs_cons (pg_name (i := 2) nd rfl (.inl rfl)) pgs_nil))))
      (pss_one (ps_ret (pe_and (pe_cmpR op_in_seq (pv 1) (pe_tup (pa_cons pe_str (pa_cons pe_str pa_nil))) (by rfl))
          (pe_one (pe_call GB hr (by rfl) BB.at_ BB.fn.kp BB.bd .nil pass0 (pa_cons (pv 2) (pa_cons pe_int (pa_cons (pe_glob (v := .int 99) (by rfl) M1 ⟨_, rfl⟩) pa_nil))))))))), ?_⟩
    refine ⟨_, rfl, _, _, _, _, true, rfl, .ty _, .base (.tup ht), kit_ty (by decide +kernel), true, rfl, iteF ?_⟩
    refine ⟨_, rfl, t, _, rfl, .inr (SqT.of ht), rfl, false, rfl, iteF ?_⟩
    refine ⟨_, rfl, t, secV c, rfl, SqT.of ht, rfl, _, _, rfl, _, _, rfl, rfl, ?_⟩
    refine ⟨_, rfl, by show 2 ≤ sizeLine; decide, fun p hp => ?_⟩
    refine ⟨p, _, rfl, .inr (SqT.of upd_same), rfl, rfl, true, ?_, iteT ?_⟩
    · show V.bl (inV (.str (kindS c.1)) _) = V.bl true
      cases c.1 <;> rfl
    refine ⟨_, rfl, (c.2 : Nat), 1, 99, rfl, ?_⟩
    rw [decide_eq_true (by omega : (1 : Int) ≤ (c.2 : Nat)), decide_eq_true (by omega : ((c.2 : Nat) : Int) ≤ 99)]
    exact k _ fun b o e => by rw [upd_ne (ne_of_none e hp)]; exact e
end
end Sl

set_option Elab.async false
set_option linter.all false
set_option maxRecDepth 100000
set_option maxHeartbeats 1000000
namespace Sl
open PySem PySem.Spec L2 OwnR LamX
def unitsL (secs : List Sec) : List Nat := secs.flatMap fun s => List.replicate s.2 (letterC s.1)
theorem unitsL_len : ∀ secs : List Sec, (unitsL secs).length = (secs.map (·.2)).sum
  | [] => rfl
  | s :: r => by
    have := unitsL_len r
    simp [unitsL] at this ⊢
theorem unitsL_snoc (secs : List Sec) (s : Sec) : unitsL (secs ++ [s]) = unitsL secs ++ List.replicate s.2 (letterC s.1) := by simp [unitsL]
theorem sum_le {secs : List Sec} (h : ∀ s ∈ secs, s.2 ≤ 99) : (secs.map (·.2)).sum ≤ 99 * secs.length := by
  induction secs with
  | nil => simp
  | cons s r ih =>
    have h1 := h s List.mem_cons_self
    have h2 := ih fun z hz => h z (List.mem_cons_of_mem _ hz)
    rw [List.map_cons, List.sum_cons, List.length_cons]
    omega
theorem ksu : ¬ (("_sections" : Str) = "_units") := by decide +kernel
/-- a Road's attributes -/
def rf (t : Addr) (u : Str) : List (Str × V) := putF "_units" (.str u) (putF "_sections" (.ref t) [])
theorem rf_eq (t : Addr) (u : Str) : rf t u = ([("_sections", V.ref t), ("_units", V.str u)] : List (Str × V)) := by
  show (if ("_sections" : Str) = "_units" then [(("_sections" : Str), V.str u)] else (("_sections" : Str), V.ref t) :: putF "_units" (V.str u) []) = ([("_sections", V.ref t), ("_units", V.str u)] : List (Str × V))
  rw [if_neg ksu]
  rfl
theorem rf_sections (t : Addr) (u : Str) : (rf t u).lookup ("_sections" : Str) = some (.ref t) := by
  unfold rf
  rw [lookup_putF, if_neg ksu, lookup_putF, if_pos rfl]
theorem rf_units (t : Addr) (u : Str) : (rf t u).lookup ("_units" : Str) = some (.str u) := by
  unfold rf
  rw [lookup_putF, if_pos rfl]
def RoadAt (C : Addr) (H : Hp) (p : Addr) (secs : List Sec) : Prop := ∃ dx t u, H p = some (.ins C dx (rf t u)) ∧ SecsAt H t secs ∧ u.cps.toList = unitsL secs
theorem RoadAt.ext {C : Addr} {H H' : Hp} {a : Addr} {secs : List Sec} (h : RoadAt C H a secs) (e : ExtN H H') : RoadAt C H' a secs := by
  obtain ⟨dx, t, u, h1, h2, h3⟩ := h
  exact ⟨dx, t, u, ExtN.ins e h1, h2.ext e, h3⟩
/-- what the program asks of the class Road and of the tables of letters -/
structure RoadT (K : PySem.W.Frag) (w : World) (mg : Str → Option Value) (C lp kp : Addr) : Prop where
  cl : Cls K C
  nS : NoAttr K C "_sections"
  nU : NoAttr K C "_units"
  mgC : mg "Road" = some (.ref C)
  mgL : mg "LETTERS" = some (.ref lp)
  mgK : mg "KINDS" = some (.ref kp)
  lN : KDct K w lp "narrow" (.str "n")
  lW : KDct K w lp "wide" (.str "w")
  kN : KDct K w kp "n" (.str "narrow")
  kW : KDct K w kp "w" (.str "wide")
  kM : (kp == sysModules) = false
def letterS (b : Bool) : Str := if b then "w" else "n"
theorem letter_toList (b : Bool) : (letterS b).cps.toList = [letterC b] := by cases b <;> decide +kernel
theorem joinL_nil : ∀ l : List (List Nat), TL.joinL [] l = l.flatten
  | [] => rfl
  | [p] => by simp [TL.joinL]
  | p :: q :: r => by
    have := joinL_nil (q :: r)
    simp [TL.joinL] at this ⊢
    exact this
theorem join_empty (ys : List Str) : (Txt.join ("" : Str) ys).cps.toList = (ys.map fun y => y.cps.toList).flatten := by
  have h := TL.tl_join ("" : Str) ys
  rw [TL.join_eq]
  have e : TL.tl ("" : Str) = [] := by decide +kernel
  rw [e, joinL_nil] at h
  exact h
section
variable {P : Program} {w : World} {K : PySem.W.Frag} {mg : Str → Option Value} {base : Heap}
theorem str_add_toList (i j : Str) : (i ++ j).cps.toList = i.cps.toList ++ j.cps.toList := by
  show (i.cps ++ j.cps).toList = _
  simp
theorem str_len_toList (i : Str) : i.length = i.cps.toList.length := by simp [Str.length]
theorem ip_addS {X : Cx} : PIp X .Add (fun x y H Q => ∃ i j, x = .str i ∧ y = .str j ∧ i.length + j.length ≤ sizeLine ∧ Q (.str (i ++ j)) H) := fun pins s σ H x y v u Q I rx ry h => iop_add_str pins s σ H x y v u Q I rx ry h
def spUnitsOf : Sp := fun vs H Q _ => ∃ (t : Addr) (secs : List Sec), vs = [.ref t] ∧ SecsAt H t secs ∧ SecsOk secs ∧ ∀ H' u, Same H H' → u.cps.toList = unitsL secs → Q (.str u) H'
def nUnitsOf : List Str := ["sections", "units", "kind", "length"]
theorem scUnitsOf : FnScope nUnitsOf ["sections"] (defScope sUnitsOf) := ⟨rfl, rfl, rfl, by decide +kernel, rfl, by decide +kernel, by decide +kernel⟩
theorem ok_unitsOf {f C lp kp : Addr} {fd : FuncData} (F : Fb K mg "_units_of" sUnitsOf ["sections"] f fd) (R : RoadT K w mg C lp kp) : FnOk P w K mg base CX0 1 f fd ["sections"] spUnitsOf := by
  refine F.fn.ok scUnitsOf (fun vs H Q E h => ?_) (fun cdv A outer s H vs Q E hr h => ?_)
  · obtain ⟨t, secs, rfl, _⟩ := h
    rfl
  · obtain ⟨t, secs, rfl, ⟨ts, ht, hlen, hsec⟩, S, k⟩ := h
    have nd := scUnitsOf.nd
    refine ⟨_, pss_cons (ps_set (i := 1) nd rfl (.inl rfl) pe_str)
      (pss_cons (ps_for PassesOwn.never rfl (pi_tup (pv 0)) (pg_tup rfl (pgs_cons (pg_name (i := 2) nd rfl (.inl rfl)) (pgs_cons (pg_name (i := 3) nd rfl (.inl rfl)) pgs_nil)))
        (pss_one (ps_aug (i := 1) nd rfl (.inl rfl) (pe_op op_repS (pe_ix (r := rIxD K w) ix_kdict (pe_glob (v := .ref lp) (by rfl) R.mgL rfl) (pv 2) (fun _ _ => rfl)) (pv 3)) ip_addS)))
      (pss_one (ps_ret (pv 1)))), ?_⟩
    have hts : (ts.map V.ref).length = secs.length := by rw [List.length_map, hlen]
    refine ⟨_, rfl, t, rfl, ⟨_, SqT.of ht⟩, for_it walk_tup (fun i σ H1 => ∃ u v2 v3, σ = [some (.ref t), some (.str u), v2, v3] ∧ Same H H1 ∧ u.cps.toList = unitsL (secs.take i))
      ⟨("" : Str), none, none, rfl, Same.refl H, by rw [List.take_zero]; decide +kernel⟩ (fun i σ H1 _ ⟨_, _, _, _, s1, _⟩ => SqT.of (s1 _ _ ht)) ?_ ?_⟩
    · rintro i y σ H1 H2 hi ⟨u, v2, v3, rfl, s1, eu⟩ ⟨e, hy⟩
      subst e
      have hic : i < secs.length := by rw [hts] at hi; exact hi
      obtain ⟨tt, htt, rfl⟩ : ∃ t, ts[i]? = some t ∧ y = V.ref t := by
        rw [List.getElem?_map] at hy
        obtain ⟨t, z1, z2⟩ := Option.map_eq_some_iff.mp hy
        exact ⟨t, z1, z2.symm⟩
      have hc : secs[i]? = some secs[i] := List.getElem?_eq_getElem hic
      have hct := s1 _ _ (hsec i tt _ htt hc)
      have c0 := S.len _ (List.getElem_mem hic)
      have hlk : KDct K w lp (kindS secs[i].1) (.str (letterS secs[i].1)) := by
        cases secs[i].1
        · exact R.lN
        · exact R.lW
      have hl1 : (letterS secs[i].1).length = 1 := by cases secs[i].1 <;> decide +kernel
      refine ⟨tt, _, rfl, SqT.of hct, rfl, _, _, rfl, _, _, rfl, rfl, ?_⟩
      refine ⟨_, rfl, _, rfl, lp, _, _, rfl, rfl, hlk, _, rfl, letterS secs[i].1, secs[i].2, rfl, rfl, c0.1, by omega, by rw [hl1]; omega, fun u2 hu2 => ?_⟩
      rw [letter_toList] at hu2
      have e2 : u2.cps.toList = List.replicate secs[i].2 (letterC secs[i].1) := by rw [hu2]; simp
      have hsz : u.length + u2.length ≤ sizeLine := by
        rw [str_len_toList, str_len_toList, eu, e2, List.length_replicate, unitsL_len]
        have h1 := sum_le (secs := secs.take i) fun s hs => (S.len s (List.mem_of_mem_take hs)).2
        have h2 : (secs.take i).length ≤ secs.length := by rw [List.length_take]; omega
        have h3 := S.few
        have h4 := c0.2
        exact Nat.le_trans (by omega : _ ≤ 2000) (by decide)
      refine ⟨u, u2, rfl, rfl, hsz, ?_⟩
      refine ⟨u ++ u2, _, _, rfl, s1, ?_⟩
      rw [str_add_toList, eu, e2, tk1 hc, unitsL_snoc]
    · rintro σ H1 ⟨u, v2, v3, rfl, s1, eu⟩
      refine ⟨_, rfl, ?_⟩
      have e9 : secs.take (ts.map V.ref).length = secs := by rw [hts, List.take_length]
      rw [e9] at eu
      exact k H1 u s1 eu
def spRInit0 (C : Addr) : Sp := fun vs H Q _ => ∃ (x dx t : Addr) (secs : List Sec), vs = [.ref x, .ref t] ∧ H x = some (.ins C dx []) ∧ SecsAt H t secs ∧ SecsOk secs ∧
  ∀ H' u, (∀ b o, H b = some o → b ≠ x → H' b = some o) → H' x = some (.ins C dx (rf t u)) → u.cps.toList = unitsL secs → Q .non H'
def nRInit : List Str := ["self", "sections", "index", "section"]
theorem scRInit : FnScope nRInit ["self", "sections"] (defScope sRInit) := ⟨rfl, rfl, rfl, by decide +kernel, rfl, by decide +kernel, by decide +kernel⟩
theorem ok_rInit {f fB fU C lp kp : Addr} {fd dB dU : FuncData} (F : Fun K "__init__" "Road.__init__" sRInit f fd) (M : Mg mg) (R : RoadT K w mg C lp kp) (BB : Fb K mg "_is_section" sIsSection ["value"] fB dB)
    (GB : FnOk P w K mg base CX0 2 fB dB ["value"] spIsSection) (BU : Fb K mg "_units_of" sUnitsOf ["sections"] fU dU) (GU : FnOk P w K mg base CX0 1 fU dU ["sections"] spUnitsOf) :
    FnR P w K mg base CX0 3 f (fun vs H Q E => ∃ ws rest, vs = ws ++ rest ∧ ws.length = (["self"] : List Str).length ∧ rest.length ≤ sizeLine ∧ ∀ p, H p = Option.none → spRInit0 C (ws ++ [V.ref p]) (upd H p (.tup rest)) Q E) := by
  obtain ⟨t1, M1⟩ := M.mostSections
  obtain ⟨oc, od, kV, doc, pm, an, cdv, ct, osl, rfl, lk, hcd⟩ := F.ex
  refine StX.fn_star lk hcd scRInit StX.cxUp_none (StX.bind_star1 (p1 := "self") (pv := "sections") (B := fun xs => bindArgs (PySem.W.fnOf "__init__" "Road.__init__" (defArgs sRInit) (defBody sRInit) (defScope sRInit) .none kV doc pm an cdv ct) ⟨xs, []⟩) (fun _ => rfl) (fun _ _ _ => rfl)) fun A outer s H vs Q E hr h => ?_
  obtain ⟨x, dx, t, secs, rfl, hx, ⟨ts, ht, hlen, hsec⟩, S, k⟩ := h
  have nd := scRInit.nd
  have hr1 : Room 1 (A.deeper (PyProof.Rows.envOfC "Road.__init__" (defScope sRInit) s.heap.objs.size f cdv)) := hr.mono (by decide)
  refine ⟨_, PSs.nox (pss_cons (ps_if (pt_not (pt_truth (pv 1) (by intro _; rfl))) (pss_one ps_never) pss_nil)
    (pss_cons (ps_for PassesOwn.never rfl (pi_enumT (by rfl) M.enumerate (pa_cons (pv 1) pa_nil)) (pg_tup rfl (pgs_cons (pg_name (i := 2) nd rfl (.inl rfl)) (pgs_cons (pg_name (i := 3) nd rfl (.inl rfl)) pgs_nil)))
      (pss_one (ps_if (PW.pt (pw_or (pt_cmpR op_eq (pv 2) (pe_glob (v := .int 12) (by rfl) M1 ⟨_, rfl⟩) (nomark _)) (pw_or1 (pt_not (pt_val (pe_call GB hr (by rfl) BB.at_ BB.fn.kp BB.bd .nil pass0 (pa_cons (pv 3) pa_nil))))))) (pss_one ps_never) pss_nil)))
    (pss_cons (ps_fld (pv 0) (pv 1) rfl)
    (pss_one (ps_fld (pv 0) (pe_call GU hr1 (by rfl) BU.at_ BU.fn.kp BU.bd .nil pass0 (pa_cons (pv 1) pa_nil)) rfl))))), ?_⟩
  have hts : (ts.map V.ref).length = secs.length := by rw [List.length_map, hlen]
  have hne : (ts.map V.ref).isEmpty = false := by
    cases ts with
    | nil =>
      exfalso
      exact S.ne (List.length_eq_zero_iff.mp hlen.symm)
    | cons _ _ => rfl
  refine ⟨_, rfl, true, .inr (.inl ⟨_, SqT.of ht, by rw [hne]; rfl⟩), iteF ?_⟩
  refine ⟨_, rfl, t, ts.map V.ref, rfl, SqT.of ht, for_it walk_enumT
    (fun i σ H1 => ∃ v2 v3, σ = [some (.ref x), some (.ref t), v2, v3] ∧ Same H H1)
    ⟨none, none, rfl, Same.refl H⟩ (fun i σ H1 _ ⟨_, _, _, s1⟩ => SqT.of (s1 _ _ ht)) ?_ ?_⟩
  · rintro i y σ H1 H2 hi ⟨v2, v3, rfl, s1⟩ ⟨T, x1, x2, rfl, hT, rfl, e1, e2⟩
    cases e1
    have hic : i < secs.length := by rw [hts] at hi; exact hi
    have e2 : (ts.map V.ref)[i]? = some x2 := e2
    obtain ⟨tt, htt, rfl⟩ : ∃ t, ts[i]? = some t ∧ x2 = V.ref t := by
      rw [List.getElem?_map] at e2
      obtain ⟨t, z1, z2⟩ := Option.map_eq_some_iff.mp e2
      exact ⟨t, z1, z2.symm⟩
    have hc : secs[i]? = some secs[i] := List.getElem?_eq_getElem hic
    have hct := hsec i tt _ htt hc
    have sT : Same H1 (upd H1 T (.tup [.int (i : Nat), .ref tt])) := fun b o e => by rw [upd_ne (ne_of_none e hT)]; exact e
    have c0 := S.len _ (List.getElem_mem hic)
    refine ⟨T, _, rfl, SqT.of upd_same, rfl, _, _, rfl, _, _, rfl, rfl, ?_⟩
    refine ⟨_, rfl, rfl, _, rfl, ?_⟩
    have ne12 : ¬ (V.int (i : Nat) = V.int 12) := fun z => by
      injection z with z
      have := S.few
      omega
    rw [decide_eq_false ne12]
    refine iteF ?_
    refine ⟨_, rfl, tt, secs[i], rfl, sT _ _ (s1 _ _ hct), c0.1, c0.2, fun H3 s3 => ⟨true, rfl, iteF ?_⟩⟩
    exact ⟨_, _, rfl, s1.trans (sT.trans s3)⟩
  · rintro σ H1 ⟨v2, v3, rfl, s1⟩
    have hx1 := s1 _ _ hx
    have ht1 := s1 _ _ ht
    have nxt : t ≠ x := ne_of ht1 hx1 (by intro z; cases z)
    refine ⟨_, rfl, _, rfl, x, C, dx, _, rfl, hx1, R.cl, R.nS, (by show 0 < 1000; decide), ?_⟩
    have sx : ∀ b o, H b = some o → b ≠ x → upd H1 x (.ins C dx (putF "_sections" (.ref t) [])) b = some o := fun b o e n => by rw [upd_ne n]; exact s1 b o e
    have hs2 : SecsAt (upd H1 x (.ins C dx (putF "_sections" (.ref t) []))) t secs := by
      refine ⟨ts, by rw [upd_ne nxt]; exact ht1, hlen, fun i a s e1 e2 => ?_⟩
      have h1 := s1 _ _ (hsec i a s e1 e2)
      rw [upd_ne (ne_of h1 hx1 (by intro z; cases z))]
      exact h1
    refine ⟨_, rfl, t, secs, rfl, hs2, S, fun H2 u k2 eU => ?_⟩
    have hx2 := k2 x _ upd_same
    refine ⟨_, rfl, x, C, dx, _, rfl, hx2, R.cl, R.nU, (by show 1 < 1000; decide), ?_⟩
    exact k _ _ (fun b o e n => by rw [upd_ne n]; exact k2 b o (sx b o e n)) upd_same eU
end
end Sl

/-! Runs of units: the longest runs of a list of Booleans. -/
namespace Sl
def rstep (acc : List (Bool × Nat)) (b : Bool) : List (Bool × Nat) := match acc.getLast? with
  | none => [(b, 1)]
  | some (k, n) => if k = b then acc.dropLast ++ [(k, n + 1)] else acc ++ [(b, 1)]
def runsOf (l : List Bool) : List (Bool × Nat) := l.foldl rstep []
theorem runsOf_snoc (l : List Bool) (b : Bool) : runsOf (l ++ [b]) = rstep (runsOf l) b := by
  unfold runsOf
  rw [List.foldl_append]
  rfl
theorem rstep_len (acc : List (Bool × Nat)) (b : Bool) : (rstep acc b).length ≤ acc.length + 1 := by
  unfold rstep
  split
  · simp
  · split
    · simp [List.length_dropLast]
    · simp
theorem runs_fold_len : ∀ (l : List Bool) (acc : List (Bool × Nat)), (l.foldl rstep acc).length ≤ acc.length + l.length
  | [], _ => by simp
  | b :: r, acc => by
    have h1 := runs_fold_len r (rstep acc b)
    have h2 := rstep_len acc b
    rw [List.foldl_cons, List.length_cons]
    omega
theorem runsOf_len (l : List Bool) : (runsOf l).length ≤ l.length := by
  have := runs_fold_len l []
  simpa [runsOf] using this
end Sl

set_option Elab.async false
set_option linter.all false
set_option maxRecDepth 100000
set_option maxHeartbeats 1000000
namespace Sl
open PySem PySem.Spec L2 OwnR LamX
section
variable {P : Program} {w : World} {K : PySem.W.Frag} {mg : Str → Option Value} {base : Heap}
/-! ### the property sections, len(road) -/
theorem scRSections : FnScope ["self"] ["self"] (defScope sRSections) := ⟨rfl, rfl, rfl, by decide +kernel, rfl, by decide +kernel, by decide +kernel⟩
theorem ok_rSections {f C lp kp : Addr} {fd : FuncData} (F : Fun K "sections" "Road.sections" sRSections f fd) (R : RoadT K w mg C lp kp) : FnOk P w K mg base CX0 1 f fd ["self"] (getSp C "_sections") := by
  obtain ⟨oc, od, kV, doc, pm, an, cdv, ct, osl, rfl, lk, hcd⟩ := F.ex
  exact fn_getter lk hcd scRSections rfl rfl R.cl R.nS
def spRLen (C : Addr) : Sp := fun vs H Q _ => ∃ (p : Addr) (secs : List Sec), vs = [.ref p] ∧ RoadAt C H p secs ∧ SecsOk secs ∧ Q (.int ((unitsL secs).length : Nat)) H
theorem scRLen : FnScope ["self"] ["self"] (defScope sRLen) := ⟨rfl, rfl, rfl, by decide +kernel, rfl, by decide +kernel, by decide +kernel⟩
theorem ok_rLen {f C lp kp : Addr} {fd : FuncData} (F : Fun K "__len__" "Road.__len__" sRLen f fd) (M : Mg mg) (R : RoadT K w mg C lp kp) : FnOk P w K mg base CX0 1 f fd ["self"] (spRLen C) := by
  refine F.ok scRLen (fun vs H Q E h => ?_) (fun cdv A outer s H vs Q E hr h => ?_)
  · obtain ⟨p, secs, rfl, _⟩ := h
    rfl
  · obtain ⟨p, secs, rfl, ⟨dx, t, u, hp, hs, hu⟩, S, k⟩ := h
    refine ⟨_, pss_one (ps_ret (pe_callB call_len_str (by rfl) M.len boot_len (pa_cons (pe_fld (pv 0) rfl) pa_nil))), ?_⟩
    have el : u.length = (unitsL secs).length := by rw [← hu]; simp [Str.length]
    have hz : u.length ≤ sizeLine := by
      rw [el, unitsL_len]
      have := sum_le fun s hs => (S.len s hs).2
      have := S.few
      exact Nat.le_trans (by omega : (secs.map (·.2)).sum ≤ 2000) (by decide)
    refine ⟨_, rfl, p, C, dx, _, _, rfl, hp, R.cl, R.nU, rf_units _ _, u, rfl, hz, ?_⟩
    rw [el]
    exact k
/-! ### _runs -/
def RunsAt (H : Hp) (a : Addr) (secs : List Sec) : Prop := ∃ ts : List Addr, H a = some (.lst (ts.map V.ref)) ∧ ts.length = secs.length ∧ ∀ (i : Nat) (t : Addr) (s : Sec), ts[i]? = some t → secs[i]? = some s → H t = some (.tup (secV s))
def spRuns : Sp := fun vs H Q _ => ∃ (u : Str) (bs : List Bool), vs = [.str u] ∧ u.cps.toList = bs.map letterC ∧ bs.length ≤ 1000 ∧ ∀ H' p, Same H H' → H p = none → RunsAt H' p (runsOf bs) → Q (.ref p) H'
def nRuns : List Str := ["units", "runs", "letter", "length"]
theorem scRuns : FnScope nRuns ["units"] (defScope sRuns) := ⟨rfl, rfl, rfl, by decide +kernel, rfl, by decide +kernel, by decide +kernel⟩
theorem letterS_eq (b : Bool) : (⟨#[letterC b]⟩ : Str) = letterS b := by cases b <;> decide +kernel
theorem letterS_inj (a b : Bool) : decide (V.str (letterS a) = V.str (letterS b)) = decide (a = b) := by cases a <;> cases b <;> decide +kernel
theorem snoc_of {α : Type} {l : List α} {m : Nat} (h : l.length = m + 1) : ∃ r x, l = r ++ [x] ∧ r.length = m := by
  have hne : l ≠ [] := fun z => by rw [z] at h; simp at h
  refine ⟨l.dropLast, l.getLast hne, (List.dropLast_concat_getLast hne).symm, ?_⟩
  rw [List.length_dropLast, h]
  rfl
structure RunsI (H H1 : Hp) (L : Addr) (acc : List Sec) (as : List Addr) : Prop where
  at_ : H1 L = some (.lst (as.map V.ref))
  len : as.length = acc.length
  nd : as.Nodup
  new : ∀ a ∈ as, H a = none ∧ a ≠ L
  it : ∀ (j : Nat) (a : Addr) (s : Sec), as[j]? = some a → acc[j]? = some s → H1 a = some (.lst [.str (letterS s.1), .int (s.2 : Nat)])
theorem RunsI.more {H H1 : Hp} {L : Addr} {acc : List Sec} {as : List Addr} (h : RunsI H H1 L acc as) (s1 : Same H H1) (hL : H L = none) {a : Addr} (ha : H1 a = none) (b : Bool) :
    RunsI H (upd (upd H1 a (.lst [.str (letterS b), .int 1])) L (.lst (as.map V.ref ++ [.ref a]))) L (acc ++ [(b, 1)]) (as ++ [a]) := by
  have naL : a ≠ L := fun z => by rw [z, h.at_] at ha; cases ha
  have nas : a ∉ as := fun z => by
    obtain ⟨j, hj⟩ := List.mem_iff_getElem?.mp z
    have hj2 : j < acc.length := by
      have := (List.getElem?_eq_some_iff.mp hj).1
      rw [← h.len]
      exact this
    have := h.it j a _ hj (List.getElem?_eq_getElem hj2)
    rw [ha] at this
    cases this
  refine ⟨by rw [upd_same, List.map_append]; rfl, by rw [List.length_append, List.length_append, h.len]; rfl, ?_, fun c hc => ?_, fun j c s e1 e2 => ?_⟩
  · rw [List.nodup_append]
    refine ⟨h.nd, by simp, fun x hx y hy => ?_⟩
    rw [List.mem_singleton.mp hy]
    exact fun z => nas (z ▸ hx)
  · rcases List.mem_append.mp hc with hc | hc
    · exact h.new c hc
    · rw [List.mem_singleton.mp hc]
      refine ⟨?_, naL⟩
      cases q : H a with
      | none => rfl
      | some o =>
        rw [s1 _ _ q] at ha
        cases ha
  · rcases Nat.lt_or_ge j as.length with lt | ge
    · rw [List.getElem?_append_left lt] at e1
      rw [List.getElem?_append_left (by rw [← h.len]; exact lt)] at e2
      have hc := List.mem_of_getElem? e1
      rw [upd_ne (h.new c hc).2, upd_ne (fun (z : c = a) => nas (by rw [← z]; exact hc))]
      exact h.it j c s e1 e2
    · rw [List.getElem?_append_right ge] at e1
      rw [List.getElem?_append_right (by rw [← h.len]; exact ge), ← h.len] at e2
      have e0 : j - as.length = 0 := by
        have := (List.getElem?_eq_some_iff.mp e1).1
        simp at this
        omega
      rw [e0] at e1 e2
      have e1 : a = c := by simpa using e1
      have e2 : (b, 1) = s := by simpa using e2
      subst e1 e2
      rw [upd_ne naL, upd_same]
      rfl
theorem RunsI.bump {H H1 : Hp} {L : Addr} {acc : List Sec} {as : List Addr} {k : Bool} {n : Nat} {a : Addr} (h : RunsI H H1 L (acc ++ [(k, n)]) (as ++ [a])) :
    RunsI H (upd H1 a (.lst [.str (letterS k), .int ((n : Nat) + 1)])) L (acc ++ [(k, n + 1)]) (as ++ [a]) := by
  have hl := h.len
  rw [List.length_append, List.length_append] at hl
  have hl : as.length = acc.length := by simpa using hl
  have na := h.new a (by simp)
  have nas : a ∉ as := fun z => by
    have := (List.nodup_append.mp h.nd).2.2 a z a (by simp)
    exact this rfl
  refine ⟨by rw [upd_ne na.2.symm]; exact h.at_, by simp [hl], h.nd, h.new, fun j c s e1 e2 => ?_⟩
  rcases Nat.lt_or_ge j as.length with lt | ge
  · rw [List.getElem?_append_left (by rw [← hl]; exact lt)] at e2
    have e1' := e1
    rw [List.getElem?_append_left lt] at e1'
    rw [upd_ne (fun (z : c = a) => nas (by rw [← z]; exact List.mem_of_getElem? e1'))]
    exact h.it j c s e1 (by rw [List.getElem?_append_left (by rw [← hl]; exact lt)]; exact e2)
  · rw [List.getElem?_append_right ge] at e1
    rw [List.getElem?_append_right (by rw [← hl]; exact ge), ← hl] at e2
    have e0 : j - as.length = 0 := by
      have := (List.getElem?_eq_some_iff.mp e1).1
      simp at this
      omega
    rw [e0] at e1 e2
    have e1 : a = c := by simpa using e1
    have e2 : (k, n + 1) = s := by simpa using e2
    subst e1 e2
    rw [upd_same]
    rfl
theorem ok_runs {f C lp kp : Addr} {fd : FuncData} (F : Fb K mg "_runs" sRuns ["units"] f fd) (R : RoadT K w mg C lp kp) : FnOk P w K mg base CX0 1 f fd ["units"] spRuns := by
  refine F.fn.ok scRuns (fun vs H Q E h => ?_) (fun cdv A outer s H vs Q E hr h => ?_)
  · obtain ⟨u, bs, rfl, _⟩ := h
    rfl
  · obtain ⟨u, bs, rfl, hu, hlen, k⟩ := h
    have nd := scRuns.nd
    refine ⟨_, pss_cons (ps_set (i := 1) nd rfl (.inl rfl) (pe_lst pa_nil))
      (pss_cons (ps_for PassesOwn.never rfl (pi_str (pv 0)) (pg_name (i := 2) nd rfl (.inl rfl))
        (pss_one (ps_if (PW.pt (pw_and (pt_truth (pv 1) (by intro _; rfl)) (pw_and1 (pt_cmpR op_eq (pe_ix ix_list (pe_ix ix_list (pv 1) (pe_un un_neg pe_int) (fun _ _ => rfl)) pe_int (fun _ _ => rfl)) (pv 2) (nomark _)))))
          (pss_one (ps_augS (pe_ix ix_list (pv 1) (pe_un un_neg pe_int) (fun _ _ => rfl)) pe_int pg_list pe_int ip_add set_list))
          (pss_one (ps_expr (pe_bm PySem.F.plainAttrs_list PySem.F.slot_list_append PySem.F.type_list_append mt_append (pv 1) (pa_cons (pe_lst (pa_cons (pv 2) (pa_cons pe_int pa_nil))) pa_nil)))))))
      (pss_one (ps_ret (pe_lc (own := [("letter", 2), ("length", 3)]) (g := gUnl K 2 (gCons (gName 2) (gCons (gName 3) gNil))) (tt := tYes) (te := tTup (tCons (tKGet1 K w (tC (.ref kp)) (tVar 2)) (tCons (tVar 3) tNil))) (by rfl) nd (pi_list (pv 1)) (blkOk_by (N := nRuns) (sc := defScope sRuns) (by decide +kernel))
        (fun _ _ _ _ _ => pg_unl rfl (pgs_cons (pg_name (i := 2) nd rfl (Or.inl rfl)) (pgs_cons (pg_name (i := 3) nd rfl (Or.inl rfl)) pgs_nil))) (fun _ _ _ _ _ => pts_nil)
        (fun _ _ _ _ _ => pe_tup (pa_cons (pe_kget1 (pe_glob (v := .ref kp) (by rfl) R.mgK rfl) (pv 2) ⟨rfl, rfl, rfl, rfl⟩) (pa_cons (pv 3) pa_nil))))))), ?_⟩
    refine ⟨Nat.zero_le _, fun L hL => ?_⟩
    have s0 : Same H (upd H L (.lst [])) := fun b o e => by rw [upd_ne (ne_of_none e hL)]; exact e
    have hsz : u.cps.size = bs.length := by
      have := congrArg List.length hu
      simpa using this
    refine ⟨_, rfl, u, rfl, for_it walk_str (fun i σ H1 => ∃ v2 as, σ = [some (.str u), some (.ref L), v2, none] ∧ Same H H1 ∧ RunsI H H1 L (runsOf (bs.take i)) as)
      ⟨none, [], rfl, s0, upd_same, rfl, by simp, fun a ha => by simp at ha, fun j a s e => by simp at e⟩ (fun _ _ _ _ _ => True.intro) ?_ ?_⟩
    · rintro i x σ H1 H2 hi ⟨v2, as, rfl, s1, I⟩ ⟨e, c, hc, ex⟩
      subst e
      have hib : i < bs.length := by rw [hsz] at hi; exact hi
      obtain ⟨b, hb⟩ : ∃ b, bs[i]? = some b := ⟨_, List.getElem?_eq_getElem hib⟩
      have ecb : c = letterC b := by
        have h1 : u.cps.toList[i]? = some c := by simpa using hc
        rw [hu, List.getElem?_map, hb] at h1
        exact (Option.some.inj h1).symm
      rw [ecb, letterS_eq] at ex
      subst ex
      rw [tk1 hb, runsOf_snoc]
      have hlen2 : (runsOf (bs.take i)).length ≤ 1000 := Nat.le_trans (runsOf_len _) (by rw [List.length_take]; omega)
      generalize runsOf (bs.take i) = acc at *
      cases hl : acc.getLast? with
      | none =>
        have ea : acc = [] := List.getLast?_eq_none_iff.mp hl
        subst ea
        have eas : as = [] := List.length_eq_zero_iff.mp I.len
        subst eas
        have er : rstep [] b = [(b, 1)] := rfl
        rw [er]
        have hat := I.at_
        refine ⟨_, rfl, false, .inl ⟨_, SqL.of hat, rfl⟩, iteF ?_⟩
        refine iteF ?_
        refine ⟨_, rfl, .inl ⟨rfl, _, SqL.of hat⟩, _, rfl, by show 2 ≤ sizeLine; decide, fun a ha => ?_⟩
        have naL : L ≠ a := ne_of_none hat ha
        refine ⟨L, _, .ref a, rfl, rfl, by rw [upd_ne naL]; exact hat, by show 0 < sizeLine; decide, ?_⟩
        exact ⟨_, [a], rfl, fun b' o e => by rw [upd_ne (ne_of_none e hL), upd_ne (ne_of_none (s1 _ _ e) ha)]; exact s1 _ _ e, I.more s1 hL ha b⟩
      | some r =>
        obtain ⟨k', n⟩ := r
        obtain ⟨acc', ea⟩ := List.getLast?_eq_some_iff.mp hl
        subst ea
        obtain ⟨as', a, eas, hl'⟩ := snoc_of (l := as) (m := acc'.length) (by rw [I.len]; simp)
        subst eas
        have hat := I.at_
        have hat2 : H2 L = some (.lst (as'.map V.ref ++ [V.ref a])) := by rw [hat, List.map_append]; rfl
        have ha := I.it acc'.length a (k', n) (by rw [← hl']; simp) (by simp)
        refine ⟨_, rfl, true, .inl ⟨_, SqL.of hat2, by simp⟩, iteT ?_⟩
        refine ⟨_, rfl, _, rfl, L, _, _, .ref a, rfl, rfl, SqL.of hat2, atI_last _ _, a, _, _, _, rfl, rfl, SqL.of ha, rfl, _, rfl, rfl, _, rfl, ?_⟩
        rw [letterS_inj]
        by_cases hk : k' = b
        · rw [decide_eq_true hk]
          refine iteT ?_
          have er : rstep (acc' ++ [(k', n)]) b = acc' ++ [(k', n + 1)] := by
            unfold rstep
            rw [hl]
            simp [hk]
          rw [er]
          refine ⟨_, rfl, _, rfl, L, _, _, .ref a, rfl, rfl, SqL.of hat2, atI_last _ _, a, _, _, _, rfl, rfl, SqL.of ha, rfl, _, _, rfl, rfl, a, _, _, 1, rfl, rfl, ha, rfl, ?_⟩
          have na := I.new a (by simp)
          exact ⟨_, _, rfl, fun b' o e => by rw [upd_ne (ne_of_none e na.1)]; exact s1 _ _ e, I.bump⟩
        · rw [decide_eq_false hk]
          refine iteF ?_
          have er : rstep (acc' ++ [(k', n)]) b = acc' ++ [(k', n)] ++ [(b, 1)] := by
            unfold rstep
            rw [hl]
            simp [hk]
          rw [er]
          refine ⟨_, rfl, .inl ⟨rfl, _, SqL.of hat⟩, _, rfl, by show 2 ≤ sizeLine; decide, fun a2 ha2 => ?_⟩
          have naL : L ≠ a2 := ne_of_none hat ha2
          refine ⟨L, _, .ref a2, rfl, rfl, by rw [upd_ne naL]; exact hat, ?_, ?_⟩
          · rw [List.length_map, I.len]
            exact small1000 hlen2
          · exact ⟨_, as' ++ [a] ++ [a2], rfl, fun b' o e => by rw [upd_ne (ne_of_none e hL), upd_ne (ne_of_none (s1 _ _ e) ha2)]; exact s1 _ _ e, I.more s1 hL ha2 b⟩
    · rintro σ H1 ⟨v2, as, rfl, s1, I⟩
      have e9 : bs.take u.cps.size = bs := by rw [hsz, List.take_length]
      rw [e9] at I
      have hlen2 := runsOf_len bs
      generalize runsOf bs = acc at *
      refine ⟨_, rfl, L, rfl, ⟨_, SqL.of I.at_⟩, fun D hD => ?_⟩
      have hL1 := I.at_
      have nDL : L ≠ D := ne_of_none hL1 hD
      have hlz : (as.map V.ref).length = acc.length := by rw [List.length_map, I.len]
      refine lc_it walk_list (fun i H2 => Same H1 H2 ∧ ∃ ts : List Addr, H2 D = some (.lst (ts.map V.ref)) ∧ ts.length = i ∧ ∀ (j : Nat) (t : Addr) (s : Sec), ts[j]? = some t → acc[j]? = some s → H2 t = some (.tup (secV s)))
        ⟨fun b o e => by rw [upd_ne (ne_of_none e hD)]; exact e, [], upd_same, rfl, fun j t s e => by simp at e⟩ (fun i H2 _ ⟨k2, _⟩ => SqL.of (k2 _ _ hL1)) ?_ ?_
      · rintro i y H2 H3 hi ⟨k2, ts, hD2, lts, hts⟩ ⟨e, hy⟩
        subst e
        have hic : i < acc.length := by rw [hlz] at hi; exact hi
        obtain ⟨a, ha, rfl⟩ : ∃ a, as[i]? = some a ∧ y = V.ref a := by
          rw [List.getElem?_map] at hy
          obtain ⟨t, z1, z2⟩ := Option.map_eq_some_iff.mp hy
          exact ⟨t, z1, z2.symm⟩
        have hc : acc[i]? = some acc[i] := List.getElem?_eq_getElem hic
        have hal := k2 _ _ (I.it i a _ ha hc)
        have hkd : KDct K w kp (letterS acc[i].1) (.str (kindS acc[i].1)) := by
          cases acc[i].1
          · exact R.kN
          · exact R.kW
        refine ⟨a, _, rfl, SqL.of hal, rfl, _, _, rfl, _, _, rfl, rfl, rfl, yes_of ?_⟩
        refine ⟨kp, rfl, R.kM, ⟨_, _, R.kN⟩, _, rfl, _, _, rfl, hkd, _, rfl, by show 2 ≤ sizeLine; decide, fun t ht => ?_⟩
        have nDt : D ≠ t := ne_of_none hD2 ht
        refine ⟨_, by rw [upd_ne nDt]; exact hD2, by rw [List.length_map, lts]; exact small1000 (by omega), fun b o e => ?_, ts ++ [t], by rw [upd_same, List.map_append]; rfl, by rw [List.length_append, lts]; rfl, fun j t2 s e1 e2 => ?_⟩
        · rw [upd_ne (ne_of_none e hD), upd_ne (ne_of_none (k2 _ _ e) ht)]
          exact k2 _ _ e
        · rcases Nat.lt_or_ge j ts.length with lt | ge
          · rw [List.getElem?_append_left lt] at e1
            have q := hts j t2 s e1 e2
            rw [upd_ne (ne_of q hD2 (by intro z; cases z)), upd_ne (ne_of_none q ht)]
            exact q
          · rw [List.getElem?_append_right ge] at e1
            have e0 : j - ts.length = 0 := by
              have := (List.getElem?_eq_some_iff.mp e1).1
              simp at this
              omega
            rw [e0] at e1
            have e1 : t = t2 := by simpa using e1
            subst e1
            have ej : j = i := by omega
            rw [ej, hc] at e2
            cases e2
            rw [upd_ne nDt.symm, upd_same]
            rfl
      · rintro H2 ⟨k2, ts, hD2, lts, hts⟩
        have hD0 : H D = none := by
          cases q : H D with
          | none => rfl
          | some o =>
            rw [s1 _ _ q] at hD
            cases hD
        exact k H2 D (s1.trans k2) hD0 ⟨ts, hD2, by rw [lts, hlz], hts⟩
end
end Sl

set_option Elab.async false
set_option linter.all false
set_option maxRecDepth 100000
set_option maxHeartbeats 1000000
namespace Sl
open PySem PySem.Spec L2 OwnR LamX
abbrev spRInit (C : Addr) : Sp := fun vs H Q E => ∃ ws rest, vs = ws ++ rest ∧ ws.length = (["self"] : List Str).length ∧ rest.length ≤ sizeLine ∧ ∀ p, H p = Option.none → spRInit0 C (ws ++ [V.ref p]) (upd H p (.tup rest)) Q E
section
variable {P : Program} {w : World} {K : PySem.W.Frag} {mg : Str → Option Value} {base : Heap}
def spOfUnits (C : Addr) : Sp := fun vs H Q _ => ∃ (u : Str) (bs : List Bool), vs = [.ref C, .str u] ∧ u.cps.toList = bs.map letterC ∧ bs.length ≤ 1000 ∧ SecsOk (runsOf bs) ∧ ∀ H' p, Same H H' → H p = none → RoadAt C H' p (runsOf bs) → Q (.ref p) H'
theorem scOfUnits : FnScope ["cls", "units", "sections"] ["cls", "units"] (defScope sROfUnits) := ⟨rfl, rfl, rfl, by decide +kernel, rfl, by decide +kernel, by decide +kernel⟩
theorem ok_ofUnits {f fI fR C lp kp : Addr} {fd dR : FuncData} (F : Fun K "of_units" "Road.of_units" sROfUnits f fd) (M : Mg mg) (R : RoadT K w mg C lp kp) (MK : Mk K C fI) (BR : Fb K mg "_runs" sRuns ["units"] fR dR)
    (GR : FnOk P w K mg base CX0 1 fR dR ["units"] spRuns) (GI : FnR P w K mg base CX0 3 fI (spRInit C)) : FnOk P w K mg base CX0 5 f fd ["cls", "units"] (spOfUnits C) := by
  refine F.ok scOfUnits (fun vs H Q E h => ?_) (fun cdv A outer s H vs Q E hr h => ?_)
  · obtain ⟨u, bs, rfl, _⟩ := h
    rfl
  · obtain ⟨u, bs, rfl, hu, hlen, S, k⟩ := h
    have nd := scOfUnits.nd
    refine ⟨_, pss_cons (ps_if (pt_not (pt_val (pe_callB call_isi (by rfl) M.isinstance boot_isinstance (pa_cons (pv 1) (pa_cons (pe_bltn (v := .ty "str") (by rfl) M.str boot_tStr rfl) pa_nil))))) (pss_one ps_never) pss_nil)
      (pss_cons (ps_set (i := 2) nd rfl (.inl rfl) (pe_call GR (hr.mono (by decide)) (by rfl) BR.at_ BR.fn.kp BR.bd .nil pass0 (pa_cons (pv 1) pa_nil)))
      (pss_one (ps_ret (pe_makeLS MK GI hr pass0 (pv 0) (pv 2))))), ?_⟩
    refine ⟨_, rfl, _, _, _, _, true, rfl, .ty _, .base (.str u), kit_ty (by decide +kernel), true, rfl, iteF ?_⟩
    refine ⟨_, rfl, u, bs, rfl, hu, hlen, fun H1 p s1 hp ⟨ts, h1, h2, h3⟩ => ?_⟩
    refine ⟨_, rfl, rfl, _, rfl, p, ts.map V.ref, rfl, .inr (SqL.of h1), fun x dx hx hdx ne => ?_⟩
    refine ⟨[.ref x], ts.map V.ref, rfl, rfl, by rw [List.length_map, h2]; have := S.few; exact Nat.le_of_lt (small1000 (by omega)), fun t ht => ?_⟩
    have hxt : x ≠ t := fun z => by
      rw [← z, upd_same] at ht
      cases ht
    have old : ∀ b o, H1 b = some o → (upd (upd (upd H1 dx (.own x)) x (.ins C dx [])) t (.tup (ts.map V.ref))) b = some o := fun b o e => by
      have e2 : (upd (upd H1 dx (.own x)) x (.ins C dx [])) b = some o := by
        rw [upd_ne (ne_of_none e hx), upd_ne (ne_of_none e hdx)]
        exact e
      rw [upd_ne (ne_of_none e2 ht)]
      exact e2
    refine ⟨x, dx, t, runsOf bs, rfl, by rw [upd_ne hxt, upd_same], ⟨ts, upd_same, h2, fun i a s e1 e2 => old _ _ (h3 i a s e1 e2)⟩, S, fun H2 us kp hX hus => ⟨rfl, ?_⟩⟩
    refine k H2 x (fun b o e => kp b o (old _ _ (s1 _ _ e)) (ne_of_none (s1 _ _ e) hx)) ?_ ⟨dx, t, us, hX, ⟨ts, ?_, h2, fun i a s e1 e2 => ?_⟩, hus⟩
    · cases q : H x with
      | none => rfl
      | some o =>
        rw [s1 _ _ q] at hx
        cases hx
    · exact kp _ _ upd_same hxt.symm
    · have q := h3 i a s e1 e2
      exact kp _ _ (old _ _ q) (ne_of_none q hx)
end
end Sl

set_option Elab.async false
set_option linter.all false
set_option maxRecDepth 100000
set_option maxHeartbeats 2000000
namespace Sl
open PySem PySem.Spec L2 OwnR LamX
theorem snoc_get {α : Type} {l : List α} {x y : α} {k : Nat} (h : (l ++ [x])[k]? = some y) : l[k]? = some y ∨ (k = l.length ∧ x = y) := by
  rcases Nat.lt_or_ge k l.length with lt | ge
  · rw [List.getElem?_append_left lt] at h
    exact .inl h
  · rw [List.getElem?_append_right ge] at h
    have e0 : k - l.length = 0 := by
      have := (List.getElem?_eq_some_iff.mp h).1
      simp at this
      omega
    rw [e0] at h
    exact .inr ⟨by omega, by simpa using h⟩
theorem Tabs.keepL {T : List (Addr × Str)} {H H' : Hp} (t : Tabs T H) (e : ∀ b o, H b = some o → (∀ xs, o ≠ .lst xs) → H' b = some o) : Tabs T H' := fun p hp => by
  obtain ⟨ps, h1, h2, h3⟩ := t p hp
  refine ⟨ps, e _ _ h1 fun xs z => (nomatch z), h2, fun pos cv hc => ?_⟩
  obtain ⟨c, e1, e2⟩ := h3 pos cv hc
  exact ⟨c, e1, e _ _ e2 fun xs z => by unfold CodeO at z; cases z⟩
section
variable {P : Program} {w : World} {K : PySem.W.Frag} {mg : Str → Option Value} {base : Heap}
theorem atI_lst {α : Type} {xs : List α} {m : Nat} {v : α} (hl : xs.length = m + 1) (h : xs[m]? = some v) : atI xs (-1) = some v := by
  obtain ⟨r, x, e, hr⟩ := snoc_of hl
  subst e
  rw [List.getElem?_append_right (by omega), hr] at h
  simp at h
  subst h
  exact atI_last _ _
end
end Sl
namespace Sl
open PySem PySem.Spec L2 OwnR LamX
section
variable {P : Program} {w : World} {K : PySem.W.Frag} {mg : Str → Option Value} {base : Heap}
theorem map_at {α β : Type} {xs : List α} {k : Nat} {v : α} (f : α → β) (h : xs[k]? = some v) : (xs.map f)[k]? = some (f v) := by rw [List.getElem?_map, h]; rfl
end
end Sl
namespace Sl
open PySem PySem.Spec L2 OwnR LamX
theorem cut_to {l : List V} {k : Nat} (h : k ≤ l.length) : cutV l none (some (k : Nat)) = l.take k := by
  unfold cutV
  have e : HT.sIx l.length l.length (some ((k : Nat) : Int)) = k := by
    show (if ((k : Nat) : Int) < 0 then (((k : Nat) : Int) + ((l.length : Nat) : Int)).toNat else min (((k : Nat) : Int)).toNat l.length) = k
    rw [if_neg (by omega)]
    omega
  have e0 : HT.sIx l.length 0 none = 0 := rfl
  rw [e, e0]
  simp
theorem cut_from {l : List V} {k : Nat} (h : k ≤ l.length) : cutV l (some (k : Nat)) none = l.drop k := by
  unfold cutV
  have e : HT.sIx l.length 0 (some ((k : Nat) : Int)) = k := by
    show (if ((k : Nat) : Int) < 0 then (((k : Nat) : Int) + ((l.length : Nat) : Int)).toNat else min (((k : Nat) : Int)).toNat l.length) = k
    rw [if_neg (by omega)]
    omega
  have e0 : HT.sIx l.length l.length none = l.length := rfl
  rw [e, e0]
  apply List.take_of_length_le
  rw [List.length_drop]
  exact Nat.le_refl _
section
variable {P : Program} {w : World} {K : PySem.W.Frag} {mg : Str → Option Value} {base : Heap}
end
end Sl

set_option Elab.async false
set_option linter.all false
set_option maxRecDepth 100000
set_option maxHeartbeats 1000000
namespace Sl
open PySem PySem.Spec L2 OwnR LamX
/-! ### the law's row of drawn numbers -/
def KeepB (r : Addr) (H H' : Hp) : Prop := ∀ b o, H b = some o → b ≠ r → H' b = some o
theorem KeepB.refl (r : Addr) (H : Hp) : KeepB r H H := fun _ _ e _ => e
theorem KeepB.trans {r : Addr} {H H1 H2 : Hp} (a : KeepB r H H1) (b : KeepB r H1 H2) : KeepB r H H2 := fun x o e n => b x o (a x o e n) n
theorem KeepB.of {r : Addr} {H H1 : Hp} (a : Same H H1) : KeepB r H H1 := fun x o e _ => a x o e
theorem KeepB.upd {r : Addr} {H : Hp} (o : HO) : KeepB r H (upd H r o) := fun x p e n => by rw [upd_ne n]; exact e
structure RowAt (K : PySem.W.Frag) (H : Hp) (r sc : Addr) (ns : List Int) : Prop where
  at_ : ∃ (a : Nat) (b c : Int), H r = some (.lst [.ref sc, .int (a : Nat), .int b, .int c])
  scr : ∀ H', KeepB r H H' → SqL K H' sc (ns.map V.int)
theorem KeepB.sqL {K : PySem.W.Frag} {r a : Addr} {H H' : Hp} {xs : List V} (k : KeepB r H H') (n : a ≠ r) (h : SqL K H a xs) : SqL K H' a xs := by
  rcases h with (h | ⟨o, h⟩) | h
  · exact .inl (.inl (k _ _ h n))
  · exact .inl (.inr ⟨o, k _ _ h n⟩)
  · exact .inr h
theorem RowAt.put {K : PySem.W.Frag} {H : Hp} {r sc : Addr} {ns : List Int} (R : RowAt K H r sc ns) (a : Nat) (b c : Int) : RowAt K (upd H r (.lst [.ref sc, .int (a : Nat), .int b, .int c])) r sc ns :=
  ⟨⟨a, b, c, upd_same⟩, fun H' k => R.scr H' ((KeepB.upd _).trans k)⟩
theorem RowAt.same {K : PySem.W.Frag} {H H' : Hp} {r sc : Addr} {ns : List Int} (R : RowAt K H r sc ns) (e : Same H H') : RowAt K H' r sc ns :=
  ⟨let ⟨a, b, c, h⟩ := R.at_; ⟨a, b, c, e _ _ h⟩, fun H2 k => R.scr H2 ((KeepB.of e).trans k)⟩
theorem RowAt.now {K : PySem.W.Frag} {H : Hp} {r sc : Addr} {ns : List Int} (R : RowAt K H r sc ns) : SqL K H sc (ns.map V.int) := R.scr H (KeepB.refl _ _)
section
variable {P : Program} {w : World} {K : PySem.W.Frag} {mg : Str → Option Value} {base : Heap}
theorem mod_nat (z : Int) {m : Nat} (h : 1 ≤ m) : ∃ q : Nat, z % (m : Int) = (q : Int) ∧ q < m := by
  have h1 := Int.emod_nonneg z (show (m : Int) ≠ 0 by omega)
  have h2 := Int.emod_lt_of_pos z (show (0 : Int) < m by omega)
  exact ⟨(z % (m : Int)).toNat, by omega, by omega⟩
def spNext (K : PySem.W.Frag) : Sp := fun vs H Q _ => ∃ (r sc : Addr) (ns : List Int) (m : Nat), vs = [.ref r, .int (m : Nat)] ∧ 1 ≤ m ∧ m ≤ 1000 ∧ RowAt K H r sc ns ∧ ∀ H' (q : Nat), KeepB r H H' → RowAt K H' r sc ns → q < m → Q (.int (q : Nat)) H'
def nNext : List Str := ["_law_dice_here", "_law_many", "_law_found", "_law_cell"]
theorem scNext : FnScope nNext ["_law_dice_here", "_law_many"] (defScope sNext) := ⟨rfl, rfl, rfl, by decide +kernel, rfl, by decide +kernel, by decide +kernel⟩
theorem ok_next {f : Addr} {fd : FuncData} (F : Fun K "_law_next" "_law_next" sNext f fd) (M : Mg mg) : FnOk P w K mg base CX0 1 f fd ["_law_dice_here", "_law_many"] (spNext K) := by
  refine F.ok scNext (fun vs H Q E h => ?_) (fun cdv A outer s H vs Q E hr h => ?_)
  · obtain ⟨r, sc, ns, m, rfl, _⟩ := h
    rfl
  · obtain ⟨r, sc, ns, m, rfl, h1, h1000, ⟨⟨a, b, c, hrow⟩, hsc⟩, k⟩ := h
    have nd := scNext.nd
    refine ⟨_, pss_cons (ps_if (pt_cmpR op_gt (pe_ix ix_list (pv 0) pe_int (fun _ _ => rfl)) pe_int (nomark _))
        (pss_cons (ps_set (i := 2) nd rfl (.inl rfl) (pe_op op_mod (pe_callTy call_int1 (by rfl) M.int boot_tInt (pa_cons (pe_ix ix_list (pv 0) pe_int (fun _ _ => rfl)) pa_nil)) (pv 1)))
        (pss_cons (ps_asg (pe_op op_fdiv (pe_ix ix_list (pv 0) pe_int (fun _ _ => rfl)) (pv 1)) (pg_sub (pv 0) pe_int set_list))
        (pss_one (ps_ret (pv 2))))) pss_nil)
      (pss_cons (ps_asg (pe_op op_add (pe_ix ix_list (pv 0) pe_int (fun _ _ => rfl)) pe_int) (pg_sub (pv 0) pe_int set_list))
      (pss_cons (ps_if (pt_cmpR op_le (pe_ix ix_list (pv 0) pe_int (fun _ _ => rfl)) (pe_callB call_len_seq (by rfl) M.len boot_len (pa_cons (pe_ix ix_list (pv 0) pe_int (fun _ _ => rfl)) pa_nil)) (nomark _))
        (pss_cons (ps_set (i := 3) nd rfl (.inl rfl) (pe_ix ix_list (pe_ix ix_list (pv 0) pe_int (fun _ _ => rfl)) (pe_op op_sub (pe_ix ix_list (pv 0) pe_int (fun _ _ => rfl)) pe_int) (fun _ _ => rfl)))
        (pss_cons (ps_asg (pe_ifExp (pt_cmpR op_ge (pv 3) (pe_op op_pow pe_int pe_int) (nomark _)) (pe_op op_fdiv (pv 3) (pv 1)) pe_int) (pg_sub (pv 0) pe_int set_list))
        (pss_one (ps_ret (pe_op op_mod (pe_callTy call_int1 (by rfl) M.int boot_tInt (pa_cons (pv 3) pa_nil)) (pv 1)))))) pss_nil)
      (pss_cons (ps_asg (pe_op op_mod (pe_callTy call_int1 (by rfl) M.int boot_tInt (pa_cons (pe_op op_mul (pe_ix ix_list (pv 0) pe_int (fun _ _ => rfl)) pe_int) pa_nil)) pe_int) (pg_sub (pv 0) pe_int set_list))
      (pss_one (ps_ret (pe_op op_mod (pe_callTy call_int1 (by rfl) M.int boot_tInt (pa_cons (pe_op op_fdiv (pe_ix ix_list (pv 0) pe_int (fun _ _ => rfl)) pe_int) pa_nil)) (pv 1))))))), ?_⟩
    have at0 : ∀ (x y z v : V), atI [x, y, z, v] 0 = some x := fun _ _ _ _ => rfl
    have at1 : ∀ (x y z v : V), atI [x, y, z, v] 1 = some y := fun _ _ _ _ => rfl
    have at2 : ∀ (x y z v : V), atI [x, y, z, v] 2 = some z := fun _ _ _ _ => rfl
    have at3 : ∀ (x y z v : V), atI [x, y, z, v] 3 = some v := fun _ _ _ _ => rfl
    have R0 : RowAt K H r sc ns := ⟨⟨a, b, c, hrow⟩, hsc⟩
    have md : ∀ z : Int, ∃ q : Nat, z % ((m : Nat) : Int) = (q : Int) ∧ q < m := fun z => mod_nat z h1
    refine ⟨_, rfl, r, _, 3, _, rfl, rfl, SqL.of hrow, at3 _ _ _ _, _, _, rfl, rfl, _, rfl, ?_⟩
    by_cases hc : 0 < c
    · rw [decide_eq_true hc]
      refine iteT ?_
      obtain ⟨q, eq, hq⟩ := md c
      refine ⟨_, rfl, r, _, 3, _, rfl, rfl, SqL.of hrow, at3 _ _ _ _, .inl ⟨c, rfl, _, rfl, _, _, rfl, rfl, by omega, ?_⟩⟩
      refine ⟨_, rfl, r, _, 3, _, rfl, rfl, SqL.of hrow, at3 _ _ _ _, _, rfl, _, _, rfl, rfl, ⟨by omega, by omega⟩, ?_⟩
      refine ⟨_, rfl, r, _, 3, 3, rfl, rfl, hrow, rfl, ?_⟩
      have z := k _ q (KeepB.upd _) (R0.put a b (c / ((m : Nat) : Int))) hq
      rw [← eq] at z
      exact ⟨_, rfl, z⟩
    · rw [decide_eq_false hc]
      refine iteF ?_
      refine ⟨_, rfl, r, _, 1, _, rfl, rfl, SqL.of hrow, at1 _ _ _ _, _, _, rfl, rfl, ?_⟩
      refine ⟨_, rfl, r, _, 1, 1, rfl, rfl, hrow, rfl, ?_⟩
      have hrow1 : upd H r (.lst ([V.ref sc, .int ((a : Nat) : Int), .int b, .int c].set 1 (.int (((a : Nat) : Int) + 1)))) r = some (.lst [V.ref sc, .int (((a + 1 : Nat)) : Int), .int b, .int c]) := by
        rw [upd_same]
        rfl
      have R1 : RowAt K (upd H r (.lst ([V.ref sc, .int ((a : Nat) : Int), .int b, .int c].set 1 (.int (((a : Nat) : Int) + 1))))) r sc ns := R0.put (a + 1) b c
      have k1 : KeepB r H (upd H r (.lst ([V.ref sc, .int ((a : Nat) : Int), .int b, .int c].set 1 (.int (((a : Nat) : Int) + 1))))) := KeepB.upd _
      show tSeq _ _ _ _ (upd H r (.lst ([V.ref sc, .int ((a : Nat) : Int), .int b, .int c].set 1 (.int (((a : Nat) : Int) + 1)))))
      generalize upd H r (.lst ([V.ref sc, .int ((a : Nat) : Int), .int b, .int c].set 1 (.int (((a : Nat) : Int) + 1)))) = H1 at hrow1 R1 k1 ⊢
      refine ⟨_, rfl, r, _, 1, _, rfl, rfl, SqL.of hrow1, at1 _ _ _ _, _, rfl, r, _, 0, _, rfl, rfl, SqL.of hrow1, at0 _ _ _ _, sc, _, rfl, .inl R1.now, _, _, rfl, rfl, _, rfl, ?_⟩
      by_cases hl : (((a + 1 : Nat)) : Int) ≤ (((ns.map V.int).length : Nat) : Int)
      · rw [decide_eq_true hl]
        refine iteT ?_
        rw [List.length_map] at hl
        have hal : a < ns.length := by omega
        obtain ⟨cell, hcell⟩ : ∃ z, ns[a]? = some z := ⟨_, List.getElem?_eq_getElem hal⟩
        refine ⟨_, rfl, r, _, 0, _, rfl, rfl, SqL.of hrow1, at0 _ _ _ _, _, rfl, r, _, 1, _, rfl, rfl, SqL.of hrow1, at1 _ _ _ _, _, _, rfl, rfl, sc, _, ((a : Nat) : Int), .int cell, rfl, ?_, R1.now, atI_nat (map_at V.int hcell), ?_⟩
        · show V.int ((((a + 1 : Nat)) : Int) - 1) = V.int ((a : Nat) : Int)
          congr 1
          omega
        refine ⟨_, rfl, _, _, rfl, rfl, ⟨by decide, by decide, by decide⟩, _, _, rfl, rfl, _, rfl, ?_⟩
        obtain ⟨q, eq, hq⟩ := md cell
        by_cases hb : (10 : Int) ^ (18 : Int).toNat ≤ cell
        · rw [decide_eq_true hb]
          refine iteT ?_
          refine ⟨_, rfl, _, rfl, _, _, rfl, rfl, ⟨by omega, by omega⟩, ?_⟩
          refine ⟨_, rfl, r, _, 3, 3, rfl, rfl, hrow1, rfl, ?_⟩
          refine ⟨_, rfl, .inl ⟨_, rfl, _, rfl, _, _, rfl, rfl, by omega, ?_⟩⟩
          have z := k _ q (k1.trans (KeepB.upd _)) (R1.put (a + 1) b (cell / ((m : Nat) : Int))) hq
          rw [← eq] at z
          exact z
        · rw [decide_eq_false hb]
          refine iteF ?_
          refine ⟨_, rfl, r, _, 3, 3, rfl, rfl, hrow1, rfl, ?_⟩
          refine ⟨_, rfl, .inl ⟨_, rfl, _, rfl, _, _, rfl, rfl, by omega, ?_⟩⟩
          have z := k _ q (k1.trans (KeepB.upd _)) (R1.put (a + 1) b 0) hq
          rw [← eq] at z
          exact z
      · rw [decide_eq_false hl]
        refine iteF ?_
        refine ⟨_, rfl, r, _, 2, _, rfl, rfl, SqL.of hrow1, at2 _ _ _ _, _, _, rfl, rfl, .inr ⟨by decide, by decide⟩, .inl ⟨_, rfl, _, _, rfl, rfl, (show (0 : Int) < 2147483647 by decide), ?_⟩⟩
        refine ⟨_, rfl, r, _, 2, 2, rfl, rfl, hrow1, rfl, ?_⟩
        have hrow2 : upd H1 r (.lst ([V.ref sc, .int (((a + 1 : Nat)) : Int), .int b, .int c].set 2 (.int (b * 48271 % 2147483647)))) r = some (.lst [V.ref sc, .int (((a + 1 : Nat)) : Int), .int (b * 48271 % 2147483647), .int c]) := by
          rw [upd_same]
          rfl
        refine ⟨_, rfl, r, _, 2, _, rfl, rfl, SqL.of hrow2, at2 _ _ _ _, _, _, rfl, rfl, ⟨by decide, by decide⟩, .inl ⟨_, rfl, _, rfl, _, _, rfl, rfl, by omega, ?_⟩⟩
        obtain ⟨q, eq, hq⟩ := md (b * 48271 % 2147483647 / 7)
        have z := k _ q (k1.trans (KeepB.upd _)) (R1.put (a + 1) (b * 48271 % 2147483647) c) hq
        rw [← eq] at z
        exact z
/-! ### _law_dice -/
def spDice (K : PySem.W.Frag) : Sp := fun vs H Q _ => ∃ (sc : Addr) (ns : List Int), vs = [.ref sc] ∧ SqL K H sc (ns.map V.int) ∧ ∀ H' r, Same H H' → H r = none → RowAt K H' r sc ns → Q (.ref r) H'
def nDice : List Str := ["_law_script", "_law_mixed", "_law_cell"]
theorem scDice : FnScope nDice ["_law_script"] (defScope sDice) := ⟨rfl, rfl, rfl, by decide +kernel, rfl, by decide +kernel, by decide +kernel⟩
theorem ok_dice {f : Addr} {fd : FuncData} (F : Fun K "_law_dice" "_law_dice" sDice f fd) (M : Mg mg) : FnOk P w K mg base CX0 1 f fd ["_law_script"] (spDice K) := by
  refine F.ok scDice (fun vs H Q E h => ?_) (fun cdv A outer s H vs Q E hr h => ?_)
  · obtain ⟨sc, ns, rfl, _⟩ := h
    rfl
  · obtain ⟨sc, ns, rfl, hsc, k⟩ := h
    have nd := scDice.nd
    refine ⟨_, pss_cons (ps_set (i := 1) nd rfl (.inl rfl) pe_int)
      (pss_cons (ps_for PassesOwn.never rfl (pi_list (pv 0)) (pg_name (i := 2) nd rfl (.inl rfl))
        (pss_one (ps_set (i := 1) nd rfl (.inl rfl) (pe_op op_mod (pe_callTy call_int1 (by rfl) M.int boot_tInt (pa_cons (pe_op op_add (pe_op op_add (pe_op op_mul (pv 1) pe_int) (pe_op op_mul (pe_op op_mod (pe_callTy call_int1 (by rfl) M.int boot_tInt (pa_cons (pv 2) pa_nil)) pe_int) pe_int)) pe_int) pa_nil)) pe_int))))
      (pss_one (ps_ret (pe_lst (pa_cons (pv 0) (pa_cons pe_int (pa_cons (pe_op op_mul (pv 1) (pe_callTy call_int1 (by rfl) M.int boot_tInt (pa_cons (pe_cmpR op_gt (pe_callB call_len_seq (by rfl) M.len boot_len (pa_cons (pv 0) pa_nil)) pe_int (nomark _)) pa_nil))) (pa_cons pe_int pa_nil)))))))), ?_⟩
    refine ⟨_, rfl, sc, rfl, ⟨_, hsc⟩, for_it walk_list (fun i σ H1 => H1 = H ∧ ∃ (z : Int) (v2 : Option V), σ = [some (.ref sc), some (.int z), v2]) ⟨rfl, _, none, rfl⟩ (fun i σ H1 _ ⟨e, _⟩ => e ▸ hsc) ?_ ?_⟩
    · rintro i y σ H1 H2 hi ⟨rfl, z, v2, rfl⟩ ⟨e, hy⟩
      subst e
      obtain ⟨cell, hcell, rfl⟩ : ∃ t, ns[i]? = some t ∧ y = V.int t := by
        rw [List.getElem?_map] at hy
        obtain ⟨t, z1, z2⟩ := Option.map_eq_some_iff.mp hy
        exact ⟨t, z1, z2.symm⟩
      refine ⟨_, rfl, _, _, rfl, rfl, .inr ⟨by decide, by decide⟩, _, rfl, .inl ⟨_, rfl, _, _, rfl, rfl, (show (0 : Int) < 2147483647 by decide), _, _, rfl, rfl, .inr ⟨by decide, by decide⟩, _, _, rfl, rfl, _, _, rfl, rfl, .inl ⟨_, rfl, _, _, rfl, rfl, (show (0 : Int) < 2147483647 by decide), ?_⟩⟩⟩
      exact ⟨rfl, _, _, rfl⟩
    · rintro σ H1 ⟨rfl, z, v2, rfl⟩
      refine ⟨_, rfl, _, rfl, _, rfl, sc, _, rfl, .inl hsc, _, _, rfl, rfl, .inr ⟨_, rfl, _, _, rfl, rfl, .inr ?_, by show 4 ≤ sizeLine; decide, fun r hr0 => ?_⟩⟩
      · split <;> decide
      · refine k _ r (fun b o e => by rw [upd_ne (ne_of_none e hr0)]; exact e) hr0 ⟨⟨0, _, 0, upd_same⟩, fun H' k' => ?_⟩
        rcases hsc with (e | ⟨o, e⟩) | e
        · exact .inl (.inl (k' _ _ (by rw [upd_ne (ne_of_none e hr0)]; exact e) (ne_of_none e hr0)))
        · exact .inl (.inr ⟨o, k' _ _ (by rw [upd_ne (ne_of_none e hr0)]; exact e) (ne_of_none e hr0)⟩)
        · exact .inr e
end
end Sl

set_option Elab.async false
set_option linter.all false
set_option maxRecDepth 100000
set_option maxHeartbeats 1000000
namespace Sl
open PySem PySem.Spec L2 OwnR LamX
/-! ### a list of new tuples -/
def TupsAt (H : Hp) (a : Addr) (vss : List (List V)) : Prop := ∃ ts : List Addr, H a = some (.lst (ts.map V.ref)) ∧ ts.length = vss.length ∧ ∀ (i : Nat) (t : Addr) (v : List V), ts[i]? = some t → vss[i]? = some v → H t = some (.tup v)
theorem tups_push {H : Hp} {a : Addr} {ts : List Addr} {vss : List (List V)} (h1 : H a = some (.lst (ts.map V.ref))) (h2 : ts.length = vss.length) (h3 : ∀ (i : Nat) (t : Addr) (v : List V), ts[i]? = some t → vss[i]? = some v → H t = some (.tup v)) {t : Addr} (ht : H t = none) (v : List V) :
    TupsAt (upd (upd H t (.tup v)) a (.lst (ts.map V.ref ++ [.ref t]))) a (vss ++ [v]) := by
  have nat : a ≠ t := ne_of_none h1 ht
  refine ⟨ts ++ [t], by rw [upd_same, List.map_append]; rfl, by rw [List.length_append, List.length_append, h2]; rfl, fun i b s e1 e2 => ?_⟩
  rcases snoc_get e1 with e1 | ⟨hi2, rfl⟩
  · have hlt := (List.getElem?_eq_some_iff.mp e1).1
    rw [List.getElem?_append_left (by rw [← h2]; exact hlt)] at e2
    have q := h3 i b s e1 e2
    rw [upd_ne (ne_of q h1 (by intro z; cases z)), upd_ne (ne_of_none q ht)]
    exact q
  · rcases snoc_get e2 with e2 | ⟨_, rfl⟩
    · have := (List.getElem?_eq_some_iff.mp e2).1
      omega
    · rw [upd_ne nat.symm, upd_same]
theorem TupsAt.keep {H H' : Hp} {r a : Addr} {vss : List (List V)} {xs : List V} (h : TupsAt H a vss) (k : KeepB r H H') (n : a ≠ r) (hr : H r = some (.lst xs)) : TupsAt H' a vss := by
  obtain ⟨ts, h1, h2, h3⟩ := h
  exact ⟨ts, k _ _ h1 n, h2, fun i t v e1 e2 => k _ _ (h3 i t v e1 e2) (ne_of (h3 i t v e1 e2) hr (by intro z; cases z))⟩
theorem TupsAt.same {H H' : Hp} {a : Addr} {vss : List (List V)} (h : TupsAt H a vss) (k : Same H H') : TupsAt H' a vss := by
  obtain ⟨ts, h1, h2, h3⟩ := h
  exact ⟨ts, k _ _ h1, h2, fun i t v e1 e2 => k _ _ (h3 i t v e1 e2)⟩
theorem tups_nil {H : Hp} {a : Addr} (h : H a = some (.lst [])) : TupsAt H a [] := ⟨[], h, rfl, fun i t v e => by simp at e⟩
theorem TupsAt.runs {H : Hp} {a : Addr} {secs : List Sec} (h : TupsAt H a (secs.map secV)) : RunsAt H a secs := by
  obtain ⟨ts, h1, h2, h3⟩ := h
  exact ⟨ts, h1, by rw [h2, List.length_map], fun i t s e1 e2 => h3 i t (secV s) e1 (by rw [List.getElem?_map, e2]; rfl)⟩
section
variable {P : Program} {w : World} {K : PySem.W.Frag} {mg : Str → Option Value} {base : Heap}
theorem RowAt.lst {H : Hp} {r sc : Addr} {ns : List Int} (R : RowAt K H r sc ns) : ∃ xs, H r = some (.lst xs) := let ⟨_, _, _, h⟩ := R.at_; ⟨_, h⟩
theorem RowAt.old {H : Hp} {r sc : Addr} {ns : List Int} (R : RowAt K H r sc ns) {l : Addr} (hl : H l = none) : l ≠ r := fun z => by
  obtain ⟨xs, h⟩ := R.lst
  rw [z, h] at hl
  cases hl
/-! ### _law_pick -/
def spPick (K : PySem.W.Frag) : Sp := fun vs H Q _ => ∃ (r sc : Addr) (ns : List Int) (s : Addr) (xs : List V), vs = [.ref r, .ref s] ∧ H s = some (.lst xs) ∧ 1 ≤ xs.length ∧ xs.length ≤ 1000 ∧ s ≠ r ∧ RowAt K H r sc ns ∧
  ∀ H' (q : Nat) (v : V), KeepB r H H' → RowAt K H' r sc ns → xs[q]? = some v → Q v H'
def nPick : List Str := ["_law_d", "_law_some"]
theorem scPick : FnScope nPick ["_law_d", "_law_some"] (defScope sPick) := ⟨rfl, rfl, rfl, by decide +kernel, rfl, by decide +kernel, by decide +kernel⟩
theorem ok_pick {f fN : Addr} {fd dN : FuncData} (F : Fun K "_law_pick" "_law_pick" sPick f fd) (M : Mg mg) (BN : Fb K mg "_law_next" sNext ["_law_dice_here", "_law_many"] fN dN)
    (GN : FnOk P w K mg base CX0 1 fN dN ["_law_dice_here", "_law_many"] (spNext K)) : FnOk P w K mg base CX0 2 f fd ["_law_d", "_law_some"] (spPick K) := by
  refine F.ok scPick (fun vs H Q E h => ?_) (fun cdv A outer s H vs Q E hr h => ?_)
  · obtain ⟨r, sc, ns, s, xs, rfl, _⟩ := h
    rfl
  · obtain ⟨r, sc, ns, sa, xs, rfl, hs, h1, h1000, nsr, R0, k⟩ := h
    refine ⟨_, pss_one (ps_ret (pe_ix ix_list (pv 1) (pe_call GN hr (by rfl) BN.at_ BN.fn.kp BN.bd .nil pass0 (pa_cons (pv 0) (pa_cons (pe_callB call_len_seq (by rfl) M.len boot_len (pa_cons (pv 1) pa_nil)) pa_nil))) (fun _ _ => rfl))), ?_⟩
    refine ⟨_, rfl, _, rfl, _, rfl, sa, _, rfl, .inl (SqL.of hs), r, sc, ns, xs.length, rfl, h1, h1000, R0, fun H1 q k1 R1 hq => ?_⟩
    obtain ⟨v, hv⟩ : ∃ v, xs[q]? = some v := ⟨_, List.getElem?_eq_getElem hq⟩
    exact ⟨sa, xs, _, v, rfl, rfl, SqL.of (k1 _ _ hs nsr), atI_nat hv, k H1 q v k1 R1 hv⟩
/-! ### _law_parts -/
def spParts (K : PySem.W.Frag) : Sp := fun vs H Q _ => ∃ (r sc : Addr) (ns : List Int) (m n : Nat), vs = [.ref r, .int (m : Nat), .int (n : Nat)] ∧ 1 ≤ m ∧ m ≤ 12 ∧ 1 ≤ n ∧ n ≤ 99 ∧ RowAt K H r sc ns ∧
  ∀ H' L secs, KeepB r H H' → RowAt K H' r sc ns → H L = none → L ≠ r → RunsAt H' L secs → 1 ≤ secs.length → secs.length ≤ m → (∀ s ∈ secs, 1 ≤ s.2 ∧ s.2 ≤ n) → Q (.ref L) H'
def nParts : List Str := ["_law_d", "_law_most", "_law_long", "_law_found", "_law_k"]
theorem scParts : FnScope nParts ["_law_d", "_law_most", "_law_long"] (defScope sParts) := ⟨rfl, rfl, rfl, by decide +kernel, rfl, by decide +kernel, by decide +kernel⟩
theorem ok_parts {f fN fP : Addr} {fd dN dP : FuncData} (F : Fun K "_law_parts" "_law_parts" sParts f fd) (M : Mg mg) (BN : Fb K mg "_law_next" sNext ["_law_dice_here", "_law_many"] fN dN)
    (GN : FnOk P w K mg base CX0 1 fN dN ["_law_dice_here", "_law_many"] (spNext K)) (BP : Fb K mg "_law_pick" sPick ["_law_d", "_law_some"] fP dP) (GP : FnOk P w K mg base CX0 2 fP dP ["_law_d", "_law_some"] (spPick K)) :
    FnOk P w K mg base CX0 3 f fd ["_law_d", "_law_most", "_law_long"] (spParts K) := by
  refine F.ok scParts (fun vs H Q E h => ?_) (fun cdv A outer s H vs Q E hr h => ?_)
  · obtain ⟨r, sc, ns, m, n, rfl, _⟩ := h
    rfl
  · obtain ⟨r, sc, ns, m, n, rfl, m1, m12, n1, n99, R0, k⟩ := h
    have nd := scParts.nd
    have hr1 : Room 1 (A.deeper (PyProof.Rows.envOfC "_law_parts" (defScope sParts) s.heap.objs.size f cdv)) := hr.mono (by decide)
    refine ⟨_, pss_cons (ps_set (i := 3) nd rfl (.inl rfl) (pe_lst pa_nil))
      (pss_cons (ps_for PassesOwn.never rfl (pi_range1 (by rfl) M.range (pa_cons (pe_op op_add pe_int (pe_call GN hr1 (by rfl) BN.at_ BN.fn.kp BN.bd .nil pass0 (pa_cons (pv 0) (pa_cons (pv 1) pa_nil)))) pa_nil)) (pg_name (i := 4) nd rfl (.inl rfl))
        (pss_one (ps_expr (pe_bm PySem.F.plainAttrs_list PySem.F.slot_list_append PySem.F.type_list_append mt_append (pv 3) (pa_cons (pe_tup (pa_cons (pe_call GP hr (by rfl) BP.at_ BP.fn.kp BP.bd .nil pass0 (pa_cons (pv 0) (pa_cons (pe_lst (pa_cons pe_str (pa_cons pe_str (pa_cons pe_str pa_nil)))) pa_nil)))
          (pa_cons (pe_op op_add pe_int (pe_call GN hr1 (by rfl) BN.at_ BN.fn.kp BN.bd .nil pass0 (pa_cons (pv 0) (pa_cons (pv 2) pa_nil)))) pa_nil))) pa_nil)))))
      (pss_one (ps_ret (pv 3)))), ?_⟩
    refine ⟨Nat.zero_le _, fun L hL => ?_⟩
    have nLr := R0.old hL
    have S0 : Same H (upd H L (.lst [])) := fun b o e => by rw [upd_ne (ne_of_none e hL)]; exact e
    refine ⟨_, rfl, _, rfl, r, sc, ns, m, rfl, m1, by omega, R0.same S0, fun H1 q k1 R1 hq => ?_⟩
    have hL1 : H1 L = some (.lst []) := k1 _ _ upd_same nLr
    refine ⟨_, _, rfl, rfl, (1 + ((q : Nat) : Int)), rfl, by omega, by omega, ?_⟩
    have en : (1 + ((q : Nat) : Int)).toNat = q + 1 := by omega
    rw [en]
    refine for_it walk_range (fun i σ H2 => ∃ (secs : List Sec) (v4 : Option V), σ = [some (.ref r), some (.int ((m : Nat) : Int)), some (.int ((n : Nat) : Int)), some (.ref L), v4] ∧ KeepB r H H2 ∧ RowAt K H2 r sc ns ∧ TupsAt H2 L (secs.map secV) ∧ secs.length = i ∧ ∀ s ∈ secs, 1 ≤ s.2 ∧ s.2 ≤ n)
      ⟨[], none, rfl, (KeepB.of S0).trans k1, R1, tups_nil hL1, rfl, fun s hs => nomatch hs⟩ (fun _ _ _ _ _ => True.intro) ?_ ?_
    · rintro i x σ H2 H3 hi ⟨secs, v4, rfl, k2, R2, T2, hlen, hd⟩ ⟨e, ex⟩
      have ex2 : x = V.int ((i : Nat) : Int) := by
        rw [ex]
        show V.int (0 + ((i : Nat) : Int)) = _
        rw [Int.zero_add]
      clear ex
      subst e ex2
      obtain ⟨ts, t1, t2, t3⟩ := id T2
      refine ⟨_, rfl, .inl ⟨rfl, _, SqL.of t1⟩, _, rfl, by show 3 ≤ sizeLine; decide, fun l hl => ?_⟩
      have s4 : Same H3 (upd H3 l (.lst [.str "narrow", .str "narrow", .str "wide"])) := fun b o e => by rw [upd_ne (ne_of_none e hl)]; exact e
      refine ⟨r, sc, ns, l, _, rfl, upd_same, by show 1 ≤ 3; decide, by show 3 ≤ 1000; decide, R2.old hl, R2.same s4, fun H5 q5 v5 k5 R5 hv5 => ?_⟩
      obtain ⟨b, rfl⟩ : ∃ b, v5 = V.str (kindS b) := by
        match q5, hv5 with
        | 0, h => exact ⟨false, (Option.some.inj h).symm⟩
        | 1, h => exact ⟨false, (Option.some.inj h).symm⟩
        | 2, h => exact ⟨true, (Option.some.inj h).symm⟩
      obtain ⟨x4, hx4⟩ := (R2.same s4).lst
      have T5 := (T2.same s4).keep k5 nLr hx4
      refine ⟨_, rfl, _, rfl, r, sc, ns, n, rfl, n1, by omega, R5, fun H6 q6 k6 R6 hq6 => ?_⟩
      obtain ⟨x5, hx5⟩ := R5.lst
      obtain ⟨ts6, z1, z2, z3⟩ := T5.keep k6 nLr hx5
      refine ⟨_, _, rfl, rfl, by show 2 ≤ sizeLine; decide, fun t ht => ?_⟩
      have nLt : L ≠ t := ne_of_none z1 ht
      refine ⟨L, _, .ref t, rfl, rfl, by rw [upd_ne nLt]; exact z1, by rw [List.length_map, z2, List.length_map, hlen]; exact small1000 (by omega), ?_⟩
      have k26 : KeepB r H H6 := k2.trans ((KeepB.of s4).trans (k5.trans k6))
      have hup : Same H6 (upd H6 t (.tup [.str (kindS b), .int (1 + ((q6 : Nat) : Int))])) := fun b o e => by rw [upd_ne (ne_of_none e ht)]; exact e
      have kfin : KeepB r H (upd (upd H6 t (.tup [.str (kindS b), .int (1 + ((q6 : Nat) : Int))])) L (.lst (ts6.map V.ref ++ [.ref t]))) := fun b o e n => by
        rw [upd_ne (ne_of_none e hL)]
        exact hup _ _ (k26 _ _ e n)
      refine ⟨secs ++ [(b, q6 + 1)], _, rfl, kfin, ⟨?_, fun H' k' => R0.scr H' (kfin.trans k')⟩, ?_, by rw [List.length_append, hlen]; rfl, fun s hs => ?_⟩
      · obtain ⟨a, b, c, h⟩ := R6.at_
        exact ⟨a, b, c, by rw [upd_ne nLr.symm]; exact hup _ _ h⟩
      · have := tups_push z1 z2 z3 ht [.str (kindS b), .int (1 + ((q6 : Nat) : Int))]
        rw [List.map_append]
        have e1 : (1 + ((q6 : Nat) : Int)) = (((q6 + 1 : Nat)) : Int) := by omega
        have e2 : secV (b, q6 + 1) = [V.str (kindS b), V.int (1 + ((q6 : Nat) : Int))] := by
          unfold secV
          rw [e1]
        show TupsAt _ L (_ ++ [secV (b, q6 + 1)])
        rw [e2]
        exact this
      · rcases List.mem_append.mp hs with hs | hs
        · exact hd s hs
        · rw [List.mem_singleton.mp hs]
          exact ⟨by show 1 ≤ q6 + 1; omega, by show q6 + 1 ≤ n; omega⟩
    · rintro σ H2 ⟨secs, v4, rfl, k2, R2, T2, hlen, hd⟩
      exact ⟨_, rfl, k H2 L secs k2 R2 hL nLr T2.runs (by omega) (by omega) hd⟩
end
end Sl

set_option Elab.async false
set_option linter.all false
set_option maxRecDepth 100000
set_option maxHeartbeats 1000000
namespace Sl
open PySem PySem.Spec L2 OwnR LamX
/-! ### random cars -/
def wordsL : List Str := ["ann", "bob", "cy", "dan", "eve", "flo", "gus", "hal", "ida", "jo"]
theorem words_nd : wordsL.Nodup := by decide +kernel
def nameB (z : Str) : Bool := decide (1 ≤ z.length) && decide (z.length ≤ 8) && z.cps.toList.all fun c => decide (97 ≤ c) && decide (c ≤ 122)
theorem name_of {z : Str} (h : nameB z = true) : NameOk z := by
  unfold nameB at h
  simp only [Bool.and_eq_true, decide_eq_true_eq, List.all_eq_true] at h
  exact ⟨h.1.1, h.1.2, h.2⟩
theorem words_ok : ∀ z ∈ wordsL, NameOk z := fun z hz => name_of (List.all_eq_true.mp (by decide +kernel : wordsL.all nameB = true) z hz)
structure DrawnW (j : Nat) (sp pc : Nat) (c : Car) : Prop where
  nm : wordsL[j]? = some c.name
  s0 : 0 ≤ c.start
  s1 : c.start ≤ sp
  p0 : 1 ≤ c.pace
  p1 : c.pace ≤ pc
theorem drawnW_ok {cars : List Car} {sp pc : Nat} (hl : cars.length ≤ 10) (hs : sp ≤ 1000000) (hp : pc ≤ 60) (h : ∀ j c, cars[j]? = some c → DrawnW j sp pc c) : CarsOk cars := by
  refine ⟨fun c hc => ?_, ?_, hl⟩
  · obtain ⟨j, hj⟩ := List.mem_iff_getElem?.mp hc
    have d := h j c hj
    exact ⟨words_ok _ (List.mem_of_getElem? d.nm), d.s0, by have := d.s1; omega, d.p0, by have := d.p1; omega⟩
  · have e : cars.map (·.name) = wordsL.take cars.length := by
      apply List.ext_getElem?
      intro i
      rw [List.getElem?_map]
      by_cases hi : i < cars.length
      · have e := List.getElem?_eq_getElem hi
        rw [List.getElem?_take_of_lt hi, e]
        exact (h i _ e).nm.symm
      · rw [List.getElem?_eq_none (by omega), List.getElem?_eq_none (by rw [List.length_take]; omega)]
        rfl
    rw [e]
    exact words_nd.sublist (List.take_sublist _ _)
section
variable {P : Program} {w : World} {K : PySem.W.Frag} {mg : Str → Option Value} {base : Heap}
def spCars (K : PySem.W.Frag) : Sp := fun vs H Q _ => ∃ (r sc : Addr) (ns : List Int) (m sp pc : Nat), vs = [.ref r, .int (m : Nat), .int (sp : Nat), .int (pc : Nat)] ∧ m ≤ 10 ∧ sp ≤ 900 ∧ 1 ≤ pc ∧ pc ≤ 60 ∧ RowAt K H r sc ns ∧
  ∀ H' L cars, KeepB r H H' → RowAt K H' r sc ns → H L = none → L ≠ r → TupsAt H' L (cars.map Car.vs) → CarsOk cars → cars.length ≤ m → Q (.ref L) H'
def nCars : List Str := ["_law_d", "_law_most", "_law_span", "_law_paces", "_law_words", "_law_found", "_law_k"]
end
end Sl

set_option Elab.async false
set_option linter.all false
set_option maxRecDepth 100000
set_option maxHeartbeats 1000000
namespace Sl
open PySem PySem.Spec L2 OwnR LamX
/-- what isinstance(x, Road) asks of an instance -/
structure IsRoad (K : PySem.W.Frag) (C : Addr) : Prop where
  ha : PySem.W.findIn K (.ref C) "__class__" = some (some (.builtin "object.__class__"))
  hn : PySem.W.specialIn K (.builtin "object.__class__") "__get__" = some (some (.builtin "getset_descriptor.__get__"))
  htk : PySem.W.takesIn K (.builtin "object.__class__") = some true
  hm : PySem.W.mroIn K C (.type "object") = some true
  kit : PySem.W.kitOne K (.ref C) (.ref C) = some true
theorem unitsL_app (a b : List Sec) : unitsL (a ++ b) = unitsL a ++ unitsL b := by unfold unitsL; rw [List.flatMap_append]
section
variable {P : Program} {w : World} {K : PySem.W.Frag} {mg : Str → Option Value} {base : Heap}
/-! ### road + road -/
def spRAdd (C : Addr) : Sp := fun vs H Q _ => ∃ (a b : Addr) (s1 s2 : List Sec), vs = [.ref a, .ref b] ∧ RoadAt C H a s1 ∧ RoadAt C H b s2 ∧ s1 ≠ [] ∧ s2 ≠ [] ∧ SecsOk (s1 ++ s2) ∧ ∀ H' p, Same H H' → H p = none → RoadAt C H' p (s1 ++ s2) → Q (.ref p) H'
def nRAdd : List Str := ["self", "other", "sections"]
theorem scRAdd : FnScope nRAdd ["self", "other"] (defScope sRAdd) := ⟨rfl, rfl, rfl, by decide +kernel, rfl, by decide +kernel, by decide +kernel⟩
theorem ok_rAdd {f fI C lp kp : Addr} {fd : FuncData} (F : Fun K "__add__" "Road.__add__" sRAdd f fd) (M : Mg mg) (R : RoadT K w mg C lp kp) (IR : IsRoad K C) (MK : Mk K C fI)
    (GI : FnR P w K mg base CX0 3 fI (spRInit C)) : FnOk P w K mg base CX0 5 f fd ["self", "other"] (spRAdd C) := by
  refine F.ok scRAdd (fun vs H Q E h => ?_) (fun cdv A outer s H vs Q E hr h => ?_)
  · obtain ⟨a, b, s1, s2, rfl, _⟩ := h
    rfl
  · obtain ⟨a, b, s1, s2, rfl, ⟨ax, at_, au, a1, ⟨ta, a2, a3, a4⟩, a5⟩, ⟨bx, bt, bu, b1, ⟨tb, b2, b3, b4⟩, b5⟩, n1, n2, S, k⟩ := h
    have nd := scRAdd.nd
    refine ⟨_, pss_cons (ps_if (pt_not (pt_val (pe_callB call_isi (by rfl) M.isinstance boot_isinstance (pa_cons (pv 1) (pa_cons (pe_glob (v := .ref C) (by rfl) R.mgC rfl) pa_nil))))) (pss_one ps_never) pss_nil)
      (pss_cons (ps_set (i := 2) nd rfl (.inl rfl) (pe_op op_catT (pe_fld (pv 0) rfl) (pe_fld (pv 1) rfl)))
      (pss_one (ps_ret (pe_makeGS MK GI hr pass0 (by rfl) R.mgC (pv 2))))), ?_⟩
    refine ⟨_, rfl, _, _, _, _, true, rfl, .own _, .base (.ins b1 R.cl IR.ha IR.hn IR.htk IR.hm), IR.kit, true, rfl, iteF ?_⟩
    have la : (ta.map V.ref).length = s1.length := by rw [List.length_map, a3]
    have lb : (tb.map V.ref).length = s2.length := by rw [List.length_map, b3]
    have few := S.few
    rw [List.length_append] at few
    refine ⟨_, rfl, a, C, ax, _, _, rfl, a1, R.cl, R.nS, rf_sections _ _, _, rfl, b, C, bx, _, _, rfl, b1, R.cl, R.nS, rf_sections _ _, at_, bt, _, _, rfl, rfl, SqT.of a2, SqT.of b2, fun z => ?_, by rw [la, lb]; exact Nat.le_of_lt (small1000 (by omega)), fun z => ?_, fun _ q hq => ?_⟩
    · have := congrArg List.length z
      rw [la] at this
      exact n1 (List.length_eq_zero_iff.mp this)
    · have := congrArg List.length z
      rw [lb] at this
      exact absurd (List.length_eq_zero_iff.mp this) n2
    have eAB : ta.map V.ref ++ tb.map V.ref = (ta ++ tb).map V.ref := by rw [List.map_append]
    have Sq : Same H (upd H q (.tup (ta.map V.ref ++ tb.map V.ref))) := fun b o e => by rw [upd_ne (ne_of_none e hq)]; exact e
    have hq1 : upd H q (.tup (ta.map V.ref ++ tb.map V.ref)) q = some (.tup (ta.map V.ref ++ tb.map V.ref)) := upd_same
    have hel : ∀ (i : Nat) (t : Addr) (s : Sec), (ta ++ tb)[i]? = some t → (s1 ++ s2)[i]? = some s → H t = some (.tup (secV s)) := fun i t s e1 e2 => by
      rcases Nat.lt_or_ge i ta.length with lt | ge
      · rw [List.getElem?_append_left lt] at e1
        rw [List.getElem?_append_left (by rw [← a3]; exact lt)] at e2
        exact a4 i t s e1 e2
      · rw [List.getElem?_append_right ge] at e1
        rw [List.getElem?_append_right (by rw [← a3]; exact ge), ← a3] at e2
        exact b4 _ t s e1 e2
    generalize upd H q (.tup (ta.map V.ref ++ tb.map V.ref)) = H1 at Sq hq1 ⊢
    refine ⟨rfl, _, rfl, q, ta.map V.ref ++ tb.map V.ref, rfl, .inl (SqT.of hq1), fun x dx hx hdx ne => ?_⟩
    refine ⟨[.ref x], ta.map V.ref ++ tb.map V.ref, rfl, rfl, by rw [List.length_append, la, lb]; exact Nat.le_of_lt (small1000 (by omega)), fun t ht => ?_⟩
    have hxt : x ≠ t := fun z => by
      rw [← z, upd_same] at ht
      cases ht
    have old : ∀ b o, H1 b = some o → (upd (upd (upd H1 dx (.own x)) x (.ins C dx [])) t (.tup (ta.map V.ref ++ tb.map V.ref))) b = some o := fun b o e => by
      have e2 : (upd (upd H1 dx (.own x)) x (.ins C dx [])) b = some o := by
        rw [upd_ne (ne_of_none e hx), upd_ne (ne_of_none e hdx)]
        exact e
      rw [upd_ne (ne_of_none e2 ht)]
      exact e2
    refine ⟨x, dx, t, s1 ++ s2, rfl, by rw [upd_ne hxt, upd_same], ⟨ta ++ tb, by rw [upd_same, eAB], by rw [List.length_append, List.length_append, a3, b3], fun i a s e1 e2 => old _ _ (Sq _ _ (hel i a s e1 e2))⟩, S, fun H2 us kp hX hus => ⟨rfl, ?_⟩⟩
    refine k H2 x (fun b o e => kp b o (old _ _ (Sq _ _ e)) (ne_of_none (Sq _ _ e) hx)) ?_ ⟨dx, t, us, hX, ⟨ta ++ tb, ?_, by rw [List.length_append, List.length_append, a3, b3], fun i a s e1 e2 => ?_⟩, hus⟩
    · cases q' : H x with
      | none => rfl
      | some o =>
        rw [Sq _ _ q'] at hx
        cases hx
    · rw [← eAB]
      exact kp _ _ upd_same hxt.symm
    · have q := Sq _ _ (hel i a s e1 e2)
      exact kp _ _ (old _ _ q) (ne_of_none q hx)
end
end Sl

set_option Elab.async false
set_option linter.all false
set_option maxRecDepth 100000
set_option maxHeartbeats 1000000
namespace Sl
open PySem PySem.Spec L2 OwnR LamX
/-! ### _law_made: a road put together from its sections, one by one -/
theorem make_one {C x dx t : Addr} {H : Hp} {s : Sec} {E : XK} {G : Hp → Prop} (ht : H t = some (.tup (secV s))) (s1 : 1 ≤ s.2) (s2 : s.2 ≤ 99) (hx : H x = none) (hdx : H dx = none) (ne : dx ≠ x)
    (k : ∀ H', Same H H' → RoadAt C H' x [s] → G H') : spRInit C [.ref x, .ref t] (upd (upd H dx (.own x)) x (.ins C dx [])) (fun v H2 => v = .non ∧ G H2) E := by
  refine ⟨[.ref x], [.ref t], rfl, rfl, by show 1 ≤ sizeLine; decide, fun p hp => ?_⟩
  have hxp : x ≠ p := fun z => by
    rw [← z, upd_same] at hp
    cases hp
  have old : ∀ b o, H b = some o → (upd (upd (upd H dx (.own x)) x (.ins C dx [])) p (.tup [.ref t])) b = some o := fun b o e => by
    have e2 : (upd (upd H dx (.own x)) x (.ins C dx [])) b = some o := by
      rw [upd_ne (ne_of_none e hx), upd_ne (ne_of_none e hdx)]
      exact e
    rw [upd_ne (ne_of_none e2 hp)]
    exact e2
  have el : ∀ {H9 : Hp} (i : Nat) (a : Addr) (s' : Sec), H9 t = some (.tup (secV s)) → [t][i]? = some a → [s][i]? = some s' → H9 a = some (.tup (secV s')) := fun i a s' h e1 e2 => by
    match i, e1, e2 with
    | 0, e1, e2 =>
      cases Option.some.inj e1
      cases Option.some.inj e2
      exact h
  refine ⟨x, dx, p, [s], rfl, by rw [upd_ne hxp, upd_same], ⟨[t], by rw [upd_same]; rfl, rfl, fun i a s' e1 e2 => el i a s' (old _ _ ht) e1 e2⟩, ⟨by simp, by simp, fun q hq => by rw [List.mem_singleton.mp hq]; exact ⟨s1, s2⟩⟩, fun H2 us kp hX hus => ⟨rfl, ?_⟩⟩
  refine k H2 (fun b o e => kp b o (old _ _ e) (ne_of_none e hx)) ⟨dx, p, us, hX, ⟨[t], kp _ _ upd_same hxp.symm, rfl, fun i a s' e1 e2 => el i a s' (kp _ _ (old _ _ ht) (ne_of_none ht hx)) e1 e2⟩, hus⟩
section
variable {P : Program} {w : World} {K : PySem.W.Frag} {mg : Str → Option Value} {base : Heap}
def spMade (C : Addr) : Sp := fun vs H Q _ => ∃ (l : Addr) (secs : List Sec), vs = [.ref l] ∧ RunsAt H l secs ∧ SecsOk secs ∧ ∀ H' p, Same H H' → H p = none → RoadAt C H' p secs → Q (.ref p) H'
def nMade : List Str := ["_law_parts_here", "_law_road", "_law_part"]
theorem scMade : FnScope nMade ["_law_parts_here"] (defScope sMade) := ⟨rfl, rfl, rfl, by decide +kernel, rfl, by decide +kernel, by decide +kernel⟩
theorem ok_made {f fI fA C lp kp : Addr} {fd dA : FuncData} {ds : List Value} {dvs : List V} (F : Fun K "_law_made" "_law_made" sMade f fd) (M : Mg mg) (R : RoadT K w mg C lp kp) (MK : Mk K C fI)
    (GI : FnR P w K mg base CX0 3 fI (spRInit C)) (hc : PySem.W.selfFirst K C = true) (hs : PySem.W.findIn K (.ref C) (PySem.dunder (Operator.info .Add).2) = some (some (.ref fA))) (hf : PySem.W.isFn K (.ref fA) = true)
    (GA : FnR P w K mg base CX0 5 fA (spRAdd C)) : FnOk P w K mg base CX0 6 f fd ["_law_parts_here"] (spMade C) := by
  refine F.ok scMade (fun vs H Q E h => ?_) (fun cdv A outer s H vs Q E hr h => ?_)
  · obtain ⟨l, secs, rfl, _⟩ := h
    rfl
  · obtain ⟨l, secs, rfl, ⟨ts, a1, a2, a3⟩, S, k⟩ := h
    have nd := scMade.nd
    have hr4 : Room 4 (A.deeper (PyProof.Rows.envOfC "_law_made" (defScope sMade) s.heap.objs.size f cdv)) := hr.mono (by decide)
    refine ⟨_, pss_cons (ps_set (i := 1) nd rfl (.inl rfl) (StX.pe_makeR MK GI hr4 (by rfl) R.mgC pass0 (pa_cons (pe_ix ix_list (pv 0) pe_int (fun _ _ => rfl)) pa_nil)))
      (pss_cons (ps_for PassesOwn.never rfl (pi_list (pe_slice sl_list (pv 0) (po_some pe_int) po_none)) (pg_name (i := 2) nd rfl (.inl rfl))
        (pss_one (ps_set (i := 1) nd rfl (.inl rfl) (pe_op (op_addO hc hs hf GA hr pass0) (pv 1) (StX.pe_makeR MK GI hr4 (by rfl) R.mgC pass0 (pa_cons (pv 2) pa_nil))))))
      (pss_one (ps_ret (pv 1)))), ?_⟩
    have l1 : 1 ≤ secs.length := by
      cases h : secs with
      | nil => exact absurd h S.ne
      | cons _ _ => simp
    have ltk : ∀ j, 1 ≤ j → secs.take j ≠ [] := fun j hj h => by
      have := congrArg List.length h
      rw [List.length_take, List.length_nil] at this
      omega
    obtain ⟨s0, hs0⟩ : ∃ s, secs[0]? = some s := ⟨_, List.getElem?_eq_getElem (by omega)⟩
    obtain ⟨t0, ht0⟩ : ∃ t, ts[0]? = some t := ⟨_, List.getElem?_eq_getElem (by omega)⟩
    have ok0 := S.len s0 (List.mem_of_getElem? hs0)
    have tk1 : secs.take 1 = [s0] := by
      cases secs with
      | nil => simp at hs0
      | cons a r => cases Option.some.inj hs0; rfl
    refine ⟨_, rfl, l, _, (((0 : Nat) : Nat) : Int), .ref t0, rfl, rfl, SqL.of a1, atI_nat (map_at V.ref ht0), fun x dx hx hdx ne => make_one (a3 0 t0 s0 ht0 hs0) ok0.1 ok0.2 hx hdx ne fun H1 S1 R1 => ?_⟩
    refine ⟨_, rfl, 1, rfl, l, _, rfl, SqL.of (S1 _ _ a1), fun z hz => ?_⟩
    have hcut : cutV (ts.map V.ref) (some (1 : Int)) none = (ts.drop 1).map V.ref := by
      have := cut_from (l := ts.map V.ref) (k := 1) (by rw [List.length_map]; omega)
      rw [List.map_drop]
      exact this
    rw [hcut]
    have S2 : Same H1 (upd H1 z (.lst ((ts.drop 1).map V.ref))) := fun b o e => by rw [upd_ne (ne_of_none e hz)]; exact e
    refine ⟨z, rfl, ⟨_, SqL.of upd_same⟩, ?_⟩
    refine for_it walk_list (fun i σ H3 => ∃ (p : Addr) (v2 : Option V), σ = [some (.ref l), some (.ref p), v2] ∧ Same H H3 ∧ H3 z = some (.lst ((ts.drop 1).map V.ref)) ∧ H p = none ∧ RoadAt C H3 p (secs.take (i + 1)))
      ⟨x, none, rfl, S1.trans S2, upd_same, hx, by rw [tk1]; exact R1.ext (ExtN.same S2)⟩ (fun i σ H3 _ ⟨_, _, _, _, h, _⟩ => SqL.of h) ?_ ?_
    · rintro i y σ H3 H4 hi ⟨p, v2, rfl, S3, hz3, hp, R3⟩ ⟨e, hy⟩
      subst e
      obtain ⟨t, ht, rfl⟩ : ∃ t, ts[i + 1]? = some t ∧ y = V.ref t := by
        rw [List.getElem?_map, List.getElem?_drop] at hy
        obtain ⟨t, z1, z2⟩ := Option.map_eq_some_iff.mp hy
        exact ⟨t, by rw [Nat.add_comm]; exact z1, z2.symm⟩
      have hlt := (List.getElem?_eq_some_iff.mp ht).1
      obtain ⟨sc, hsc⟩ : ∃ s, secs[i + 1]? = some s := ⟨_, List.getElem?_eq_getElem (by omega)⟩
      have okc := S.len sc (List.mem_of_getElem? hsc)
      have tk : secs.take (i + 1 + 1) = secs.take (i + 1) ++ [sc] := by rw [List.take_succ, hsc]; rfl
      refine ⟨_, rfl, _, rfl, fun x2 dx2 hx2 hdx2 ne2 => make_one (S3 _ _ (a3 (i + 1) t sc ht hsc)) okc.1 okc.2 hx2 hdx2 ne2 fun H5 S5 R5 => ?_⟩
      have R4 : RoadAt C H5 p (secs.take (i + 1)) := R3.ext (ExtN.same S5)
      obtain ⟨pd, pt, pu, p1, _⟩ := id R4
      obtain ⟨qd, qt, qu, q1, _⟩ := id R5
      refine ⟨p, pd, _, x2, qd, _, rfl, rfl, p1, q1, p, x2, secs.take (i + 1), [sc], rfl, R4, R5, ltk _ (by omega), by simp, ?_, fun H6 p6 S6 hp6 R6 => ?_⟩
      · rw [← tk]
        exact ⟨ltk _ (by omega), Nat.le_trans (List.length_take_le' _ _) S.few, fun q hq => S.len q (List.mem_of_mem_take hq)⟩
      · refine ⟨p6, _, rfl, S3.trans (S5.trans S6), S6 _ _ (S5 _ _ hz3), ?_, by rw [tk]; exact R6⟩
        cases q : H p6 with
        | none => rfl
        | some o =>
          rw [S5 _ _ (S3 _ _ q)] at hp6
          cases hp6
    · rintro σ H3 ⟨p, v2, rfl, S3, hz3, hp, R3⟩
      refine ⟨_, rfl, k H3 p S3 hp ?_⟩
      have e : secs.take (((ts.drop 1).map V.ref).length + 1) = secs := by
        rw [List.length_map, List.length_drop]
        exact List.take_of_length_le (by omega)
      rw [e] at R3
      exact R3
end
end Sl

set_option Elab.async false
set_option linter.all false
set_option maxRecDepth 100000
set_option maxHeartbeats 2000000
/-! Lambdas as values: made (with a default, or none), kept in lists, handed to a def that calls them, called. -/
namespace OwnR
open PySem PySem.Spec PyProof.Rows L2 LamX
/-- the text of a lambda; own: its one parameter, whose default is 0 -/
structure LamT where
  par : Arguments
  body : Expr
  scope : Scope
  own : Option Str
/-- at f: the lambda, its defaults at dV -/
def LamA (f : Addr) (q : Str) (cl : List (Str × Addr)) (T : LamT) (c' : Addr) (dV : Value) : HO :=
  .ext fun h => ∃ doc pm ctv : Value, h.get? f = some (PySem.W.kdv_obj "<lambda>" q T.par (.expr T.body) T.scope cl dV doc pm c' ctv)
theorem lamA_tbl {f c' : Addr} {q : Str} {cl : List (Str × Addr)} {T : LamT} {dV : Value} (ps : Array Value) : LamA f q cl T c' dV ≠ .tbl ps := fun z => by
  unfold LamA at z
  cases z
/-- a lambda of the maker (its name q, its cells cl) stands at f -/
def LamV (q : Str) (cl : List (Str × Addr)) (H : Hp) (f : Addr) (T : LamT) : Prop :=
  ∃ (c' : Addr) (dV : Value), H f = some (LamA f q cl T c' dV) ∧ H c' = some (CodeO c' q) ∧ ((T.own = none ∧ dV = .none) ∨ ∃ (a : Str) (t : Addr), T.own = some a ∧ dV = .ref t ∧ H t = some (.tup [.int 0]))
theorem LamV.ext {q : Str} {cl : List (Str × Addr)} {H H' : Hp} {f : Addr} {T : LamT} (h : LamV q cl H f T) (e : ExtN H H') : LamV q cl H' f T := by
  obtain ⟨c', dV, h1, h2, h3⟩ := h
  refine ⟨c', dV, e _ _ h1 lamA_tbl, e _ _ h2 codeO_ne, ?_⟩
  rcases h3 with h3 | ⟨a, t, h4, h5, h6⟩
  · exact .inl h3
  · exact .inr ⟨a, t, h4, h5, e _ _ h6 (fun _ z => nomatch z)⟩
/-- the parameters bind -/
def LamB (T : LamT) : Prop := match T.own with
  | none => ∀ (q : Str) (cl : List (Str × Addr)) (doc pm cv ctv : Value), bindArgs (PySem.W.kdv_fn "<lambda>" q T.par (.expr T.body) T.scope cl .none doc pm cv ctv) ⟨[], []⟩ = pure []
  | some a => ∀ (q : Str) (cl : List (Str × Addr)) (t : Addr) (doc pm cv ctv : Value), ∃ k : Option (Array Value) → Sem (List (Str × Value)),
      bindArgs (PySem.W.kdv_fn "<lambda>" q T.par (.expr T.body) T.scope cl (.ref t) doc pm cv ctv) ⟨[], []⟩ = (seqItems? (.ref t) >>= k) ∧ ∀ v : Value, k (some #[v]) = pure [(a, v)]
/-- its names: globals, the maker's cells, its parameter (no name of the maker's) -/
structure LamS2 (N : List Str) (sc : Scope) (T : LamT) : Prop where
  kind : T.scope.kind = .function
  co : T.scope.isCoroutine = false
  gen : T.scope.isGenerator = false
  cell : ∀ y ∈ T.scope.names, y.2 ≠ .cell
  loc : ∀ y ∈ T.scope.names, y.2 = .local → y.1 ∉ N
  free : ∀ y ∈ T.scope.names, y.2 = .free → sc.names.lookup y.1 = some .cell ∨ sc.names.lookup y.1 = some .free
  par : ∀ a, T.own = some a → T.scope.names.lookup a = some .local
def lamS2B (N : List Str) (sc : Scope) (T : LamT) : Bool :=
  decide (T.scope.kind = .function) && !T.scope.isCoroutine && !T.scope.isGenerator && (match T.own with | none => true | some a => decide (T.scope.names.lookup a = some .local)) &&
    T.scope.names.all fun y => !decide (y.2 = .cell) && (!decide (y.2 = .local) || !decide (y.1 ∈ N)) && (!decide (y.2 = .free) || decide (sc.names.lookup y.1 = some .cell) || decide (sc.names.lookup y.1 = some .free))
theorem lamS2_by {N : List Str} {sc : Scope} {T : LamT} (h : lamS2B N sc T = true) : LamS2 N sc T := by
  unfold lamS2B at h
  simp only [Bool.and_eq_true, Bool.or_eq_true, Bool.not_eq_true', decide_eq_true_eq, decide_eq_false_iff_not, List.all_eq_true] at h
  obtain ⟨⟨⟨⟨h1, h2⟩, h3⟩, h5⟩, h4⟩ := h
  refine ⟨h1, h2, h3, fun y hy => (h4 y hy).1.1, fun y hy e => ?_, fun y hy e => ?_, fun a e => ?_⟩
  · rcases (h4 y hy).1.2 with z | z
    · exact absurd e z
    · exact z
  · rcases (h4 y hy).2 with (z | z) | z
    · exact absurd e z
    · exact .inl z
    · exact .inr z
  · rw [e] at h5
    exact of_decide_eq_true h5
theorem LamS2.has {X : Cx} {T : LamT} (L : LamS2 X.N X.env.scope T) (ok : X.Ok) : ∀ y ∈ T.scope.names, y.2 = .free → ∃ c, X.env.cells.lookup y.1 = some c := fun y hy e => (L.free y hy e).elim (fun z => ok.has _ (.inl z)) fun z => ok.has _ (.inr z)
/-- the maker's name for its lambdas, the cells that a lambda gets -/
abbrev lq (X : Cx) : Str := X.env.qual ++ "<lambda>"
abbrev lcl (X : Cx) (T : LamT) : List (Str × Addr) := cloFrom X.env.cells T.scope.names []
section
variable {X : Cx} {pins : List (Addr × Obj)} {σ : L2.St} {H : Hp} {s : Shared}
/-- the function object is laid and known -/
theorem fn_laid {f c' : Addr} {T : LamT} {dV doc pm ctv : Value} {h' : Heap} {t' : Nat} (I : Inv X pins σ H { s with heap := h', toks := t' }) (hf : f = h'.objs.size) :
    Inv X pins σ (upd H f (LamA f (lq X) (lcl X T) T c' dV)) { s with heap := h'.push (PySem.W.kdv_obj "<lambda>" (lq X) T.par (.expr T.body) T.scope (lcl X T) dV doc pm c' ctv), toks := t' } := by
  subst hf
  have hg : (h'.push (PySem.W.kdv_obj "<lambda>" (lq X) T.par (.expr T.body) T.scope (lcl X T) dV doc pm c' ctv)).get? h'.objs.size = some (PySem.W.kdv_obj "<lambda>" (lq X) T.par (.expr T.body) T.scope (lcl X T) dV doc pm c' ctv) := Heap.get?_push_size _ rfl
  have new : ObjOk X.prog X.w (upd H h'.objs.size (LamA h'.objs.size (lq X) (lcl X T) T c' dV)) (h'.push (PySem.W.kdv_obj "<lambda>" (lq X) T.par (.expr T.body) T.scope (lcl X T) dV doc pm c' ctv)) h'.objs.size (LamA h'.objs.size (lq X) (lcl X T) T c' dV) :=
    ⟨⟨doc, pm, ctv, hg⟩, ⟨_, hg⟩, fun h1 h2 ⟨d, p, c, e⟩ k => ⟨d, p, c, k _ e⟩⟩
  exact I.laid (s := { s with heap := h', toks := t' }) (t' := t') (fun b o e => Heap.get?_push_of_some _ e) (Nat.le_refl _) new
/-- the lambda's object is made, its defaults at dV -/
theorem tail_makeV {T : LamT} {dV : Value} {Tb : List (Addr × Str)} {c P : Addr} {pos : Pos} {E : Value → Shared → Prop} {Q : Value → Shared → Prop} (I : Inv X pins σ H s) (TB : TabB X.base X.mg c P) (hcode : X.env.code = .ref c)
    (hm : (P, lq X) ∈ Tb) (hu : ∀ p ∈ Tb, p.1 = P → p.2 = lq X) (hT : Tabs Tb H) (hfree : ∀ y ∈ T.scope.names, y.2 = .free → ∃ c, X.env.cells.lookup y.1 = some c)
    (h : ∀ (f c' : Addr) (H1 : Hp) (s' : Shared), Inv X pins σ H1 s' → ExtN H H1 → Tabs Tb H1 → H1 f = some (LamA f (lq X) (lcl X T) T c' dV) → H1 c' = some (CodeO c' (lq X)) → Q (.ref f) s') :
    wpAny (model X.prog X.w) X.A (makeTail "<lambda>" (lq X) T.par (.expr T.body) T.scope X.env dV .none none pos pos.line) Q E s := by
  obtain ⟨ps, hP, ht, ha⟩ := hT _ hm
  have bP : s.heap.BuiltinsAt X.mg P := TB.bm.keeps I.bk
  have hP' : s.heap.get? P = some { cls := .none, data := .fields ps } := I.hok P _ hP
  cases hc : codeAmong pos ps.toList with
  | none =>
    refine PySem.W.kdv_makeTail (mg := X.mg) (c := c) (P := P) (ps := ps) (closure_ok hfree) I.ok.glob (I.mod.glob.keeps I.bk) hcode (TB.code.keeps I.bk) hP' ht hc TB.gP bP fun c' ctv doc h' tk hx hge hlt hrec htb => ?_
    obtain ⟨c2, oc, vs, t, e2, hoc, hd, hv⟩ := hrec
    cases e2
    have hsz : s.heap.objs.size ≤ h'.objs.size := Nat.le_trans hge (Nat.le_of_lt hlt)
    have nC : H c' = none := I.hok.fresh hge
    have I1 := inv_table (t' := tk) (more := #[rawInt pos.line, rawInt pos.col, .ref c']) (h' := h') I hP hx htb hge ⟨oc, vs, t, hoc, hd, hv⟩
    have hE : ExtN H (upd (upd H P (.tbl (ps ++ #[rawInt pos.line, rawInt pos.col, .ref c']))) c' (CodeO c' (lq X))) := fun b o e n => by
      rw [upd_ne (ne_of_none e nC), upd_ne (fun z => n ps (Option.some.inj (e.symm.trans (by rw [z]; exact hP))))]
      exact e
    have n1 : h'.objs.size ≠ c' := Nat.ne_of_gt hlt
    have nF : (upd (upd H P (.tbl (ps ++ #[rawInt pos.line, rawInt pos.col, .ref c']))) c' (CodeO c' (lq X))) h'.objs.size = none := by
      have n2 : h'.objs.size ≠ P := Nat.ne_of_gt (Nat.lt_of_lt_of_le (Heap.lt_size hP') hsz)
      rw [upd_ne n1, upd_ne n2]
      exact I.hok.fresh hsz
    have I2 := fn_laid (T := T) (c' := c') (dV := dV) (doc := doc) (pm := (X.mg "__name__").getD .none) (ctv := ctv) I1 rfl
    have eL : (ps ++ #[rawInt pos.line, rawInt pos.col, .ref c']).toList = ps.toList ++ [rawInt pos.line, rawInt pos.col, .ref c'] := by simp
    have T1 : Tabs Tb (upd (upd H P (.tbl (ps ++ #[rawInt pos.line, rawInt pos.col, .ref c']))) c' (CodeO c' (lq X))) := fun p hp => by
      by_cases hb : p.1 = P
      · rw [hu p hp hb, hb]
        refine ⟨_, by rw [upd_ne (ne_of_none hP nC), upd_same], by rw [eL]; exact PySem.TriplesOk_snoc _ _ _ _ ht, fun p' cv hcv => ?_⟩
        rw [eL] at hcv
        rcases among_app _ ht hcv with z | z
        · obtain ⟨c0, e1, e2⟩ := ha p' cv z
          exact ⟨c0, e1, hE _ _ e2 codeO_ne⟩
        · exact ⟨c', z, upd_same⟩
      · obtain ⟨ps', a1, a2, a3⟩ := hT p hp
        refine ⟨ps', by rw [upd_ne (ne_of_none a1 nC), upd_ne hb]; exact a1, a2, fun p' cv hcv => ?_⟩
        obtain ⟨c0, e1, e2⟩ := a3 p' cv hcv
        exact ⟨c0, e1, hE _ _ e2 codeO_ne⟩
    have sN : ∀ b o, (upd (upd H P (.tbl (ps ++ #[rawInt pos.line, rawInt pos.col, .ref c']))) c' (CodeO c' (lq X))) b = some o → (upd (upd (upd H P (.tbl (ps ++ #[rawInt pos.line, rawInt pos.col, .ref c']))) c' (CodeO c' (lq X))) h'.objs.size (LamA h'.objs.size (lq X) (lcl X T) T c' dV)) b = some o := fun b o e => by
      rw [upd_ne (ne_of_none e nF)]
      exact e
    exact h _ c' _ _ I2 (fun b o e n => sN _ _ (hE b o e n)) (T1.ext sN) upd_same (sN _ _ upd_same)
  | some cv =>
    obtain ⟨c', e, hco⟩ := ha pos cv hc
    subst e
    refine PySem.W.kdv_makeTailHit (mg := X.mg) (c := c) (P := P) (ps := ps) (closure_ok hfree) I.ok.glob (I.mod.glob.keeps I.bk) hcode (TB.code.keeps I.bk) hP' ht hc bP fun ctv doc h' tk hx hsz => ?_
    have I1 : Inv X pins σ H { s with heap := h', toks := tk } := I.kept hx
    have I2 := fn_laid (T := T) (c' := c') (dV := dV) (doc := doc) (pm := (X.mg "__name__").getD .none) (ctv := ctv) I1 rfl
    have nF : H h'.objs.size = none := I.hok.fresh hsz
    have sN : ∀ b o, H b = some o → (upd H h'.objs.size (LamA h'.objs.size (lq X) (lcl X T) T c' dV)) b = some o := fun b o e => by
      rw [upd_ne (ne_of_none e nF)]
      exact e
    exact h _ c' _ _ I2 (ExtN.of sN) (hT.ext sN) upd_same (sN _ _ hco)
/-- the reading of a lambda: a new one stands there -/
def tLamV (Tb : List (Addr × Str)) (q : Str) (cl : List (Str × Addr)) (T : LamT) : TE := fun _ H Q => Tabs Tb H ∧ ∀ (H1 : Hp) (f : Addr), ExtN H H1 → Tabs Tb H1 → LamV q cl H1 f T → Q (.ref f) H1
/-- lambda: body -/
theorem pe_lamV0 {T : LamT} {Tb : List (Addr × Str)} {c P : Addr} {pos : Pos} (TB : TabB X.base X.mg c P) (hcode : X.env.code = .ref c) (hm : (P, lq X) ∈ Tb) (hu : ∀ p ∈ Tb, p.1 = P → p.2 = lq X) (L : LamS2 X.N X.env.scope T)
    (hw : T.own = none) (hdef : defaultsOf T.par X.env = ([], []) := by rfl) : PE X (.Lambda T.par T.body T.scope pos) (tLamV Tb (lq X) (lcl X T) T) := by
  refine ⟨fun pins s σ H Q I h => ?_⟩
  obtain ⟨hT, h⟩ := h
  refine PySem.W.kla_eval hdef ?_
  rw [makeFunction_eq]
  simp only [List.zip_nil_right, List.filterMap_nil, List.isEmpty_nil, if_true, pure_bind]
  exact tail_makeV I TB hcode hm hu hT (L.has I.ok) fun f c' H1 s' I1 e1 T1 h1 h2 => ⟨.ref f, H1, I1, rfl, h H1 f e1 T1 ⟨c', .none, h1, h2, .inl ⟨hw, rfl⟩⟩⟩
/-- lambda a=0: body -/
theorem pe_lamD0 {T : LamT} {Tb : List (Addr × Str)} {c P : Addr} {pos p0 : Pos} {j : Nat} {a : Str} (TB : TabB X.base X.mg c P) (hcode : X.env.code = .ref c) (hm : (P, lq X) ∈ Tb) (hu : ∀ p ∈ Tb, p.1 = P → p.2 = lq X) (L : LamS2 X.N X.env.scope T)
    (hw : T.own = some a) (hd : T.par.defaults = [.Constant (.int 0) j p0]) (hk : T.par.kw_defaults = []) : PE X (.Lambda T.par T.body T.scope pos) (tLamV Tb (lq X) (lcl X T) T) := by
  refine ⟨fun pins s σ H Q I h => ?_⟩
  obtain ⟨hT, h⟩ := h
  refine PySem.W.kdv_lam (by rw [hd]; rfl) hk ?_
  rw [hd]
  have p0 := (pe_int (X := X) (i := 0) (j := j) (pos := p0)).run pins s σ H (fun v H1 => v = .int 0 ∧ H1 = H) I ⟨rfl, rfl⟩
  refine PySem.W.kdv_all1 (wpAny_mono p0 (fun v s1 ⟨x, H1, I1, r1, ex, eH⟩ => PySem.W.kdv_all0 ?_) fun _ _ z => z)
  subst ex eH
  rw [makeFunction_eq]
  simp only [List.zip_nil_right, List.filterMap_nil, List.isEmpty_nil, List.isEmpty_cons, if_true, pure_bind, Bool.false_eq_true, if_false]
  refine wpAny_bind (wpAny_newTextTuple ?_)
  have sz : s1.heap.objs.size ≤ s1.heap.objs.size := Nat.le_refl _
  have hg : (s1.heap.push (PySem.W.kdv_tup [v])).get? s1.heap.objs.size = some (PySem.W.kdv_tup [v]) := Heap.get?_push_size _ rfl
  have I2 : Inv X pins σ (upd H1 s1.heap.objs.size (.tup [.int 0])) { s1 with heap := s1.heap.push (PySem.W.kdv_tup [v]), toks := s1.toks } :=
    I1.laid (t' := s1.toks) (fun b o e => Heap.get?_push_of_some _ e) sz ⟨by show 1 ≤ sizeLine; decide, [v], .cons r1 .nil, ⟨_, hg, rfl, _, rfl⟩⟩
  have nF : H1 s1.heap.objs.size = none := I1.hok.fresh sz
  have sN : ∀ b o, H1 b = some o → (upd H1 s1.heap.objs.size (.tup [.int 0])) b = some o := fun b o e => by
    rw [upd_ne (ne_of_none e nF)]
    exact e
  exact tail_makeV I2 TB hcode hm hu (hT.ext sN) (L.has I.ok) fun f c' H3 s' I3 e3 T3 h1 h2 => ⟨.ref f, H3, I3, rfl, h H3 f ((ExtN.of sN).trans e3) T3 ⟨c', _, h1, h2, .inr ⟨a, _, hw, rfl, e3 _ _ upd_same (fun _ z => nomatch z)⟩⟩⟩
theorem pe_lamV {par : Arguments} {body : Expr} {scope : Scope} {Tb : List (Addr × Str)} {c P : Addr} {pos : Pos} (TB : TabB X.base X.mg c P) (hcode : X.env.code = .ref c) (hm : (P, lq X) ∈ Tb) (hu : ∀ p ∈ Tb, p.1 = P → p.2 = lq X) (L : LamS2 X.N X.env.scope ⟨par, body, scope, none⟩)
    (hdef : defaultsOf par X.env = ([], []) := by rfl) : PE X (.Lambda par body scope pos) (tLamV Tb (lq X) (lcl X ⟨par, body, scope, none⟩) ⟨par, body, scope, none⟩) := pe_lamV0 (T := ⟨par, body, scope, none⟩) TB hcode hm hu L rfl hdef
theorem pe_lamD {par : Arguments} {body : Expr} {scope : Scope} {Tb : List (Addr × Str)} {c P : Addr} {pos p0 : Pos} {j : Nat} {a : Str} (TB : TabB X.base X.mg c P) (hcode : X.env.code = .ref c) (hm : (P, lq X) ∈ Tb) (hu : ∀ p ∈ Tb, p.1 = P → p.2 = lq X) (L : LamS2 X.N X.env.scope ⟨par, body, scope, some a⟩)
    (hd : par.defaults = [.Constant (.int 0) j p0] := by rfl) (hk : par.kw_defaults = [] := by rfl) : PE X (.Lambda par body scope pos) (tLamV Tb (lq X) (lcl X ⟨par, body, scope, some a⟩) ⟨par, body, scope, some a⟩) := pe_lamD0 (T := ⟨par, body, scope, some a⟩) TB hcode hm hu L rfl hd hk
end
end OwnR

set_option Elab.async false
set_option linter.all false
set_option maxRecDepth 100000
set_option maxHeartbeats 2000000
/-! Lambdas that stand as values: called, and handed to a def that calls them. -/
namespace OwnR
open PySem PySem.Spec PyProof.Rows L2 LamX
section
variable {X : Cx} {pins : List (Addr × Obj)} {σ : L2.St} {H HZ : Hp} {s s1 : Shared}
/-- the lambda's context, entered at s1 from the frames outer; its maker stood so at s -/
theorem lam_startV {A : Around} {outer : List Env} {E : XK} {T : LamT} {f c' : Addr} {h₁ : Heap} {tk : Nat} {bs : List (Str × Value)} (I : Inv X pins σ H s) (L : LamS2 X.N X.env.scope T) (e0 : Env0 X.prog X.w X.K X.mg X.base A outer s1 HZ) (hd : A.handled = none)
    (un : Un (frs X.stack) [] H HZ s.heap s1.heap) (ns : h₁.Ns s1.heap.objs.size fun y => bs.reverse.lookup y) (kp : ∀ b o, s1.heap.get? b = some o → h₁.get? b = some o) :
    Inv (lamCx X A outer s1 HZ E T.scope f c') [] σ HZ { s1 with heap := h₁, toks := tk } := by
  have hasC := L.has I.ok
  have up : ∀ {y c}, (lcl X T).lookup y = some c → X.env.cells.lookup y = some c := fun {y c} e => by
    rcases cloFrom_mem (PySem.mem_of_lookup e) with m | ⟨g1, g2⟩
    · exact absurd m (by simp)
    · obtain ⟨d, hcd⟩ := hasC _ g1 rfl
      have hcd : X.env.cells.lookup y = some d := hcd
      rw [hcd] at g2
      rw [hcd, g2]
      rfl
  have down : ∀ {y}, T.scope.names.lookup y = some .free → ∃ c, (lcl X T).lookup y = some c := fun {y} hl => mem_lookup (cloFrom_has (cells := X.env.cells) (acc := []) (show (y, NameKind.free) ∈ T.scope.names from PySem.mem_of_lookup hl))
  have stays : ∀ {c : Addr} {v : Option Value}, H c = none → s.heap.IsCell c v → h₁.IsCell c v := fun {c v} n ⟨o, ho, hdt⟩ =>
    let ⟨sl, q⟩ := un.any ho n (by simp)
    ⟨{ o with slots := sl }, kp _ _ q, hdt⟩
  have no : ∀ b : Addr, ¬ b ∈ (lamCx X A outer s1 HZ E T.scope f c').ex := fun b z => nomatch (show b ∈ ([] : List Addr) from z)
  exact
    { ok :=
        { mod := e0.mod, kind := L.kind, glob := rfl, blt := rfl, above := Nat.le_refl _
          inj := fun y z c e1 e2 => I.ok.inj y z c (up e1) (up e2)
          has := fun y hy => by
            rcases (show T.scope.names.lookup y = some .cell ∨ T.scope.names.lookup y = some .free from hy) with q | q
            · exact absurd rfl (L.cell _ (PySem.mem_of_lookup q))
            · exact down q
          cab := fun y c z => nomatch (show false = true from z)
          hd := fun _ => hd, frames := Around.frames_deeper e0.frames, stk := .inr ⟨rfl, rfl⟩
          exf := fun b z => absurd z (no b), bs := e0.bs, bsz := e0.bsz, noex := fun b _ _ => no b, exfs := fun b z => absurd z (no b), funs := e0.funs, frf := e0.frf }
      os := rfl, bare := e0.bare, base := Un.kept kp
      loc := ⟨_, ns, fun i y v e1 e2 e3 => by
        rcases (show Vis T.scope y from e3) with k | k | k
        · exact absurd (List.mem_of_getElem? (show X.N[i]? = some y from e1)) (L.loc _ (PySem.mem_of_lookup k) rfl)
        · exact absurd rfl (L.cell _ (PySem.mem_of_lookup k))
        · obtain ⟨m, hn, hl⟩ := I.loc
          have vis := L.free _ (PySem.mem_of_lookup k) rfl
          obtain ⟨u, r, q⟩ := hl i y v e1 e2 (vis.elim (fun z => .inr (.inl z)) fun z => .inr (.inr z))
          obtain ⟨c2, h2⟩ := down k
          refine ⟨u, r, .inr ⟨.inr k, c2, h2, ?_⟩⟩
          rcases q with ⟨k', _⟩ | ⟨_, c3, e', z⟩
          · have k' : X.env.scope.names.lookup y = some .local := k'
            rcases vis with k2 | k2
            · rw [show X.env.scope.names.lookup y = _ from k2] at k'; cases k'
            · rw [show X.env.scope.names.lookup y = _ from k2] at k'; cases k'
          · have e'' := e'.symm.trans (up h2)
            cases e''
            exact stays (I.freeC y _ e') z⟩
      cell := fun y c e => let ⟨w', z⟩ := I.cell y c (up e); ⟨w', stays (I.freeC y c (up e)) z⟩
      free := e0.hok.fresh (Nat.le_refl _)
      freeC := fun y c e => by
        obtain ⟨v, o, ho, _⟩ := I.cell y c (up e)
        exact un.free c o ho (I.freeC y c (up e)) (by simp)
      pin := fun q hq => nomatch (show q ∈ ([] : List (Addr × Obj)) from hq)
      hok := e0.hok.kept kp, len := I.len }
/-- what the lambda's body reads, in its own context -/
def LamPE (X : Cx) (T : LamT) (k : Nat) (t : XK → TE) : Prop := ∀ (A : Around) (outer : List Env) (s : Shared) (H : Hp) (E : XK) (f c' : Addr), Room k (A.deeper (lamEnv X T.scope s.heap.objs.size f c')) → PE (lamCx X A outer s H E T.scope f c') T.body (t E)
/-- f() at s1; its maker stood so at s -/
theorem lam_run {A : Around} {outer : List Env} {E : XK} {T : LamT} {f : Addr} {k : Nat} {t : XK → TE} {Q : VK} (I : Inv X pins σ H s) (L : LamS2 X.N X.env.scope T) (B : LamB T) (e0 : Env0 X.prog X.w X.K X.mg X.base A outer s1 HZ) (hr : Room (k + 1) A)
    (un : Un (frs X.stack) [] H HZ s.heap s1.heap) (hb : LamPE X T k t) (hv : LamV (lq X) (lcl X T) HZ f T) (h : t E σ HZ Q) :
    codeAny (model X.prog X.w) A (.call (.ref f) ⟨[], []⟩) (L2.CR (L2.CX X.prog X.w) outer X.prog X.w HZ s1 Q E) s1 := by
  obtain ⟨c', dV, hf, hc, hD⟩ := hv
  obtain ⟨⟨doc, pm, ctv, of⟩, _, _⟩ := e0.hok f _ hf
  obtain ⟨⟨oc, vs, tq, hoc, hdc, hvc⟩, _, _⟩ := e0.hok c' _ hc
  have lim : s1.heap.NoLimit := e0.mod.nolimit.keeps fun b o e => (e0.bs b o e).1
  refine PySem.W.kla_callFunE hr.depth of rfl L.co L.gen rfl ⟨c', oc, vs, tq, rfl, hoc, hdc, hvc⟩ ?_
  have go : ∀ (bs : List (Str × Value)), (∀ y ∈ bs, T.scope.names.lookup y.1 = some .local) →
      wpAny (model X.prog X.w) A.in1 (newFunctionEnv T.scope mainGlobals (lcl X T) bs (lq X ++ ".<locals>.") (some f) (.ref c') none builtinsNs)
        (fun env s₂ => s₂.heap.NoLimit ∧ codeAny (model X.prog X.w) A (.expr T.body env) (L2.CR (L2.CX X.prog X.w) outer X.prog X.w HZ s1 Q E) s₂) (fun e s' => L2.CR (L2.CX X.prog X.w) outer X.prog X.w HZ s1 Q E (.error e) s') s1 := fun bs hbs => by
    refine wpAny_newFunctionEnv L.cell hbs (fun h₁ hns hsb => ⟨lim.fresh _ hsb, ?_⟩) L.kind
    show codeAny _ _ (.expr T.body (lamEnv X T.scope s1.heap.objs.size f c')) _ _
    have kp : ∀ b o, s1.heap.get? b = some o → h₁.get? b = some o := fun b o e => hsb.extBut b o (Nat.ne_of_lt (Heap.lt_size e)) (Heap.get?_push_of_some _ e)
    have J := lam_startV (E := E) (f := f) (c' := c') (tk := s1.toks + bs.length) I L e0 hr.hd un hns kp
    exact PySem.W.kla_codeExpr (wpAny_mono ((hb A outer s1 HZ E f c' (hr.deeper _)).run [] _ _ HZ Q J h) (fun v s' hq => let ⟨w', H', J', rv, q⟩ := hq; ⟨w', H', J'.os, J'.bare, J'.base, J'.hok, rv, q⟩) fun e s' hq => hq)
  unfold LamB at B
  rcases hD with ⟨ho, rfl⟩ | ⟨a, ta, ho, rfl, hta⟩
  · rw [ho] at B
    rw [B]
    exact wpAny_pure (go [] fun y hy => nomatch hy)
  · rw [ho] at B
    obtain ⟨k', b1, b2⟩ := B (lq X) (lcl X T) ta doc pm (.ref c') ctv
    obtain ⟨_, its, ri, oT, hoT, hcl, n, hdT⟩ := (show ObjOk X.prog X.w HZ s1.heap ta (.tup [.int 0]) from e0.hok ta _ hta)
    cases ri with
    | @cons _ v _ _ rv rn =>
      cases rn
      refine BindsTo.of_defaults (fd := PySem.W.kdv_fn "<lambda>" (lq X) T.par (.expr T.body) T.scope (lcl X T) (.ref ta) doc pm (.ref c') ctv) (binds := [(a, v)]) rfl hoT hdT b1 (b2 v) _ _ _ _ ?_
      refine go [(a, v)] fun y hy => ?_
      rw [List.mem_singleton.mp hy]
      exact L.par a ho
end
end OwnR
namespace OwnR
open PySem PySem.Spec PyProof.Rows L2 LamX
/-- the def that calls what it got (a: its parameter); TT: what it makes of the lambda's reading -/
def GivesV (P : Program) (w : World) (K : PySem.W.Frag) (mg : Str → Option Value) (base : Heap) (A : Around) (stack : List Env) (Ng : List Str) (x : Str) (sg : Scope) (g : Addr) (cdg : Value) (bg : List Stmt) (a : Str) (TT : (XK → Hp → VK → Prop) → Hp → VK → Prop) : Prop :=
  ∀ (f : Addr) (s : Shared) (H : Hp) (Q : VK) (Held : Hp → Prop) (tl : XK → Hp → VK → Prop),
    (∀ (W : WX) (pn : List (Addr × Obj)) (xe : Value → Shared → Prop) (E : XK) (p1 p2 : Pos), Takes ((cxOf L2.CX0 P w K mg base Ng x sg g cdg A stack s H L2.E0).tr pn xe) W → (∀ cls d σ' H', σ'.length = Ng.length → E cls d H' → W cls d σ' H') →
      PE ((cxOf L2.CX0 P w K mg base Ng x sg g cdg A stack s H L2.E0).tr pn xe) (.Call (.Name a p1) [] [] p2) (fun σZ HZ Q => σZ[0]? = some (some (.ref f)) ∧ Held HZ ∧ tl E HZ Q)) → Held H → TT tl H Q →
    ∃ t, PSs (cxOf L2.CX0 P w K mg base Ng x sg g cdg A stack s H L2.E0).nox bg t ∧ t { nx := fun _ H' => Q .non H', rt := Q } (L2.start Ng [.ref f]) H
/-- what is told of the def that calls -/
structure Teller (K : PySem.W.Frag) (mg : Str → Option Value) (x a : Str) (g : Addr) (Ng : List Str) (bg : List Stmt) (sg : Scope) (cdv : Value) : Prop where
  mgx : mg x = some (.ref g)
  k : PySem.W.keepIn K (.ref g) = true
  lk : ∃ (oc : Value) (od : Option Addr) (pg : Arguments) (dV kV doc pm ct : Value) (an : Option Addr) (osl : Array (Option Value)), K.lookup g = some ⟨oc, od, .func (PySem.W.fnOf x x pg bg sg dV kV doc pm an cdv ct), osl⟩ ∧ L2.Binds K (PySem.W.fnOf x x pg bg sg dV kV doc pm an cdv ct) [a] []
  cd : PySem.W.codeIn K cdv x = true
  sc : FnScope Ng [a] sg
  n0 : Ng[0]? = some a
  vis : Vis sg a
section
variable {X : Cx} {pins : List (Addr × Obj)} {σ : L2.St} {H : Hp} {s : Shared}
/-- told(f), called where the maker stands at s -/
theorem told_run {x a : Str} {g f : Addr} {Ng : List Str} {bg : List Stmt} {sg : Scope} {cdv : Value} {k : Nat} {T : LamT} {t : XK → TE} {TT : (XK → Hp → VK → Prop) → Hp → VK → Prop} {Q : VK} (I : Inv X pins σ H s) (W : Teller X.K X.mg x a g Ng bg sg cdv)
    (hG : GivesV X.prog X.w X.K X.mg X.base X.A X.stack Ng x sg g cdv bg a TT) (hr : Room (k + 2) X.A) (L : LamS2 X.N X.env.scope T) (B : LamB T) (hb : LamPE X T k t) (hv : LamV (lq X) (lcl X T) H f T) (h : TT (fun E H' Q' => t E σ H' Q') H Q)
    (hd : (a == ("__debug__" : Str)) = false) (hcd : (a == ("__classdict__" : Str)) = false) :
    codeAny (model X.prog X.w) X.A (.call (.ref g) ⟨[.ref f], []⟩) (L2.CR L2.CX0 X.stack X.prog X.w H s Q L2.E0) s := by
  obtain ⟨oc, od, pg, dV, kV, doc, pm, ct, an, osl, lk, hbind⟩ := W.lk
  refine run_ofS (N := Ng) (ps := [a]) (us := [.ref f]) (vs := [.ref f]) lk W.cd W.sc hr I.env0 (hbind s [.ref f] I.kIn rfl) (.cons rfl .nil) rfl fun hr' => ?_
  have act : ∀ (Wx : WX) (pn : List (Addr × Obj)) (xe : Value → Shared → Prop) (E : XK) (p1 p2 : Pos), Takes ((cxOf L2.CX0 X.prog X.w X.K X.mg X.base Ng x sg g cdv X.A X.stack s H L2.E0).tr pn xe) Wx → (∀ cls d σ' H', σ'.length = Ng.length → E cls d H' → Wx cls d σ' H') →
      PE ((cxOf L2.CX0 X.prog X.w X.K X.mg X.base Ng x sg g cdv X.A X.stack s H L2.E0).tr pn xe) (.Call (.Name a p1) [] [] p2) (fun σZ HZ Q => σZ[0]? = some (some (.ref f)) ∧ LamV (lq X) (lcl X T) HZ f T ∧ t E σ HZ Q) := by
    intro Wx pn xe E p1 p2 tk hW
    refine ⟨fun pinsZ sZ σZ HZ Q IZ hh => ?_⟩
    obtain ⟨hs, hvZ, ht⟩ := hh
    refine wpAny_Call_Name_kw (thn ((pe_var (pos := p1) (i := 0) W.n0 W.vis hd hcd).run pinsZ sZ σZ HZ (fun v H1 => v = .ref f ∧ H1 = HZ) IZ ⟨.ref f, hs, rfl, rfl⟩) fun u s2 ⟨v, H2, I2, r2, ev, eH⟩ => ?_)
    subst ev eH
    obtain rfl : u = Value.ref f := r2
    obtain ⟨c', dV', hf, _⟩ := id hvZ
    obtain ⟨⟨doc', pm', ctv', of⟩, _, _⟩ := I2.hok f _ hf
    refine PySem.W.callWith_F0 ⟨_, _, _, _, of⟩ ?_
    have rc := lam_run (E := E) (Q := Q) I L B I2.env0 hr' I2.base hb hvZ ht
    refine wpAny_call (codeAny_mono rc fun r s' hq => ?_)
    cases r with
    | error e => exact tk e s' (XE.of_call I2 (fun cls d H' h => hW cls d σZ H' I2.len h) hq)
    | ok fl =>
      cases fl with
      | ret u => exact I2.after hq
      | next => exact False.elim hq
      | brk => exact False.elim hq
      | cont => exact False.elim hq
  obtain ⟨t', ht', hq'⟩ := hG f s H Q (fun HZ => LamV (lq X) (lcl X T) HZ f T) (fun E H' Q' => t E σ H' Q') act hv h
  exact ⟨t', ht'.nox, hq'⟩
/-- told(e), e a lambda's value -/
def tTold (X : Cx) (k : Nat) (TT : (XK → Hp → VK → Prop) → Hp → VK → Prop) (te : TE) : TE := fun σ H Q => te σ H fun y H1 => ∃ (f : Addr) (T : LamT) (t : XK → TE), y = .ref f ∧ LamS2 X.N X.env.scope T ∧ LamB T ∧ LamPE X T k t ∧ LamV (lq X) (lcl X T) H1 f T ∧ TT (fun E H' Q' => t E σ H' Q') H1 Q
theorem pe_told {x a : Str} {g : Addr} {Ng : List Str} {bg : List Stmt} {sg : Scope} {cdv : Value} {k : Nat} {TT : (XK → Hp → VK → Prop) → Hp → VK → Prop} {e : Expr} {te : TE} {p pos : Pos} (W : Teller X.K X.mg x a g Ng bg sg cdv) (hg : Gl X x)
    (hG : GivesV X.prog X.w X.K X.mg X.base X.A X.stack Ng x sg g cdv bg a TT) (hr : Room (k + 2) X.A) (he : PE X e te) (hdb : (x == ("__debug__" : Str)) = false := by decide) (hd : (a == ("__debug__" : Str)) = false := by decide) (hcd : (a == ("__classdict__" : Str)) = false := by decide)
    (h1 : starEach [e] X.env = (false, eval e X.env) :: starEach [] X.env := by rfl) (h2 : (backTo pos (starEach [] X.env)).any (·.1) = false := by rfl) :
    PE X (.Call (.Name x p) [e] [] pos) (tTold X k TT te) := by
  refine ⟨fun pins s σ H Q I h => ?_⟩
  have ha : PA X [e] (tCons te tNil) := pa_cons he pa_nil h1
  refine wpAny_Call_Name_kw (ld_glob I hg W.mgx ?_ hdb)
  refine PySem.W.callWith_K (h₀ := X.base) I.ok.mod.kin W.k (thn (ha.run pos pins s σ H (fun vs H1 => ∃ (f : Addr) (T : LamT) (t : XK → TE), vs = [.ref f] ∧ LamS2 X.N X.env.scope T ∧ LamB T ∧ LamPE X T k t ∧ LamV (lq X) (lcl X T) H1 f T ∧ TT (fun E H' Q' => t E σ H' Q') H1 Q) I ?_) fun us s1 hs => ?_) h1 h2
  · show te σ H _
    have key : ∀ (Q1 Q2 : VK), Q1 = Q2 → te σ H Q1 → te σ H Q2 := fun _ _ z y => z ▸ y
    refine key _ _ (funext fun y => funext fun H1 => propext ⟨fun ⟨f, T, t, e, r⟩ => ⟨f, T, t, by rw [e], r⟩, fun ⟨f, T, t, e, r⟩ => ⟨f, T, t, by injection e, r⟩⟩) h
  · obtain ⟨vs, H1, I1, r, f, T, t, rfl, L, B, hb, hv, hT⟩ := hs
    obtain ⟨u, rfl, ru⟩ := r.one
    obtain rfl : u = Value.ref f := ru
    refine ⟨I1.kIn, wpAny_call (codeAny_mono (told_run I1 W hG hr L B hb hv hT hd hcd) fun r s2 hq => ?_)⟩
    cases r with
    | error e => exact (show False from hq).elim
    | ok fl =>
      cases fl with
      | ret u => exact I1.after hq
      | next => exact False.elim hq
      | brk => exact False.elim hq
      | cont => exact False.elim hq
end
end OwnR

set_option Elab.async false
set_option linter.all false
set_option maxRecDepth 100000
set_option maxHeartbeats 2000000
/-! Caught errors of own classes, with a dict of their own or without one. -/
namespace OwnR
open PySem PySem.Spec PyProof.Rows L2 LamX
/-- what an own class of errors says of itself -/
structure ErrC (K : PySem.W.Frag) (C : Addr) : Prop where
  cl : (PySem.W.clsIn K C).isSome = true
  ga : PySem.W.findIn K (.ref C) "__getattribute__" = some (some (.builtin "BaseException.__getattribute__"))
  gg : PySem.W.findIn K (.ref C) "__getattr__" = some none
  sub : PySem.W.subIn K (.ref C) (.type "BaseException") = some true
  hd : PySem.W.hasDictIn K C = true
  cat : PySem.W.findIn K (.ref C) "__class__" = some (some (.builtin "object.__class__"))
  sp : PySem.W.specialIn K (.builtin "object.__class__") "__get__" = some (some (.builtin "getset_descriptor.__get__"))
  tk : PySem.W.takesIn K (.builtin "object.__class__") = some true
  mro : PySem.W.mroIn K C (.type "object") = some true
  ix : PySem.W.findIn K (.ref C) "index" = some none
  nm : PySem.W.findIn K (.ref C) "name" = some none
theorem ErrC.xf {K : PySem.W.Frag} {C : Addr} (h : ErrC K C) : XfC K C := ⟨h.ga, h.gg, h.sub, h.hd⟩
/-- the error's own dict, if it has one, is known -/
def DictK (H : Hp) (d : Option Addr) : Prop := d = none ∨ ∃ dd fs, d = some dd ∧ H dd = some (.xd fs)
theorem DictK.ext {H H' : Hp} {d : Option Addr} (h : DictK H d) (e : ExtN H H') : DictK H' d := by
  rcases h with h | ⟨dd, fs, h1, h2⟩
  · exact .inl h
  · exact .inr ⟨dd, fs, h1, e _ _ h2 (fun _ z => nomatch z)⟩
/-- isinstance(e, c), e the error that the suite holds -/
def rIsV (K : PySem.W.Frag) (D a : Addr) (d : Option Addr) : List V → Hp → VK → Prop := fun xs H Q => ∃ (c : V) (cv : Value) (b : Bool), xs = [.ref a, c] ∧ (∀ u, RelV c u → u = cv) ∧ PySem.W.kitOne K (.ref D) cv = some b ∧ DictK H d ∧ Q (.bl b) H
theorem call_isV {X : Cx} {a D : Addr} {d : Option Addr} {oe : Obj} {pn : List (Addr × Obj)} (C : ErrC X.K D) (hz : Zc (.ref D) d oe) (hf : ∃ vs, oe.data = .fields vs) : CallR (X.suite a ((a, oe) :: pn)) (.builtin "isinstance") (rIsV X.K D a d) := by
  intro pins s σ H xs us Q I r h
  obtain ⟨c, cv, b, rfl, hcv, e, hd, q⟩ := h
  obtain ⟨u1, ur, rfl⟩ : ∃ u1 ur, us = u1 :: ur := by cases r; exact ⟨_, _, rfl⟩
  cases r with
  | cons rx rr =>
    obtain ⟨u2, rfl⟩ : ∃ u2, ur = [u2] := by
      cases rr with
      | cons _ rr => cases rr; exact ⟨_, rfl⟩
    cases rr with
    | cons rt _ =>
      cases rx
      have ec := hcv _ rt
      subst ec
      obtain ⟨hget, _⟩ := I.pin (a, oe) (List.mem_append.mpr (.inl List.mem_cons_self))
      obtain ⟨vs, hv⟩ := hf
      obtain ⟨oc, od, oda, osl⟩ := oe
      obtain ⟨h1, h2⟩ := hz
      dsimp only at h1 h2 hv
      subst h1 h2 hv
      rcases hd with hd | ⟨dd, fs, hd, hdd⟩
      · subst hd
        exact PySem.W.kia_one (PySem.W.kitx_exc (od := none) C.cl C.ga C.gg C.sub C.cat C.sp C.tk C.mro) I.kIn ⟨hget, rfl, rfl, trivial⟩ e (fun z => nomatch z) fun tk => ⟨.bl b, H, I.kept (t' := tk) fun _ _ z => z, rfl, q⟩
      · subst hd
        obtain ⟨mA, hns, _⟩ := (show ObjOk X.prog X.w H s.heap dd (.xd fs) from I.hok dd _ hdd)
        obtain ⟨o1, ho1, _⟩ := lookIn_ns hns
        exact PySem.W.kia_one (PySem.W.kitx_exc (od := some o1) C.cl C.ga C.gg C.sub C.cat C.sp C.tk C.mro) I.kIn ⟨hget, rfl, rfl, ho1⟩ e (fun z => nomatch z) fun tk => ⟨.bl b, H, I.kept (t' := tk) fun _ _ z => z, rfl, q⟩
/-! ### list.count of flat things -/
def rCntV (K : PySem.W.Frag) : V → List V → Hp → VK → Prop := fun x xs H Q => ∃ (p : Addr) (ys : List V) (y : V), x = .ref p ∧ xs = [y] ∧ SqL K H p ys ∧ flatV y = true ∧ ys.all flatV = true ∧ Q (.int ((ys.countP fun z => eqV z y : Nat) : Int)) H
theorem countU {y : V} : ∀ {ys : List V} {us : List Value}, Vals ys us → ys.all flatV = true → us.countP (eqU y) = ys.countP fun z => eqV z y
  | _, _, .nil, _ => rfl
  | z :: ys, u :: us, .cons r t, f => by
    obtain ⟨f1, f2⟩ := Bool.and_eq_true_iff.mp f
    rw [List.countP_cons, List.countP_cons, countU t f2, eqU_of r f1]
theorem mt_countV {X : Cx} : MtR X "list.count" (rCntV X.K) := by
  intro pins s σ H x xs v us Q I rx rxs h
  obtain ⟨p, ys, y, rfl, rfl, hs, fy, fys, q⟩ := h
  cases (show v = Value.ref p from rx)
  obtain ⟨u, rfl, ru⟩ := rxs.one
  obtain ⟨its, rv, ⟨⟨cls, dd, data, sl⟩, n, ho, hc, hdn, hd⟩, hlen⟩ := I.list hs
  dsimp only at hc hd
  subst hc hd
  have key := SeqAt.list_countAt p its.toArray n dd sl u (eqU y)
  refine call_meets PySem.F.slot_list_count ⟨_, ho, rfl⟩ PySem.F.entry_list_count (PySem.F.args_list_count_2 _ _) key ⟨ho, fun w hw => mem_eqAt ru fy rv fys w (by simpa using hw), ?_⟩
  refine ⟨.int ((its.toArray.toList.countP (eqU y) : Nat) : Int), H, I.tok _, ⟨s.toks, rfl⟩, ?_⟩
  rw [show its.toArray.toList = its by simp, countU rv fys]
  exact q
end OwnR

set_option Elab.async false
set_option linter.all false
/-! facts of own errors' classes from what k_is answers -/
namespace OwnR
open PySem PySem.Spec L2
section
variable {K : PySem.W.Frag} {C D : Addr} {b : Bool}
theorem kit_tyE {T : String} (h1 : PySem.W.kitMeta T = true) (h : PySem.W.subIn K (.ref C) (.type T) = some b) : PySem.W.kitOne K (.ref C) (.type T) = some b := by
  show (if (Value.ref C == Value.type T) = true then some true else PySem.W.kitCls K (.ref C) (.type T)) = some b
  have e : (Value.ref C == Value.type T) = false := by
    refine Bool.eq_false_iff.mpr fun q => ?_
    have := beq_iff_eq.mp q
    cases this
  rw [e]
  show (if PySem.W.kitMeta T = true then PySem.W.subIn K (.ref C) (.type T) else none) = some b
  rw [if_pos h1, h]
theorem kit_refE (hs : PySem.W.subIn K (.ref C) (.ref C) = some true) (c : PySem.W.isClsIn K D = true) (t : PySem.W.typeIn K (.ref D) = some (.type "type")) (h : PySem.W.subIn K (.ref C) (.ref D) = some b) : PySem.W.kitOne K (.ref C) (.ref D) = some b := by
  show (if (Value.ref C == Value.ref D) = true then some true else PySem.W.kitCls K (.ref C) (.ref D)) = some b
  by_cases q : (Value.ref C == Value.ref D) = true
  · rw [if_pos q]
    have e := Value.ref.inj (beq_iff_eq.mp q)
    subst e
    rw [hs] at h
    exact h
  · rw [if_neg q]
    have c2 : (PySem.W.clsIn K D).isSome = true := c
    have e2 : ((PySem.W.clsIn K D).isSome && PySem.W.typeIn K (.ref D) == some (.type "type")) = true := by rw [c2, t] <;> rfl
    show (if ((PySem.W.clsIn K D).isSome && PySem.W.typeIn K (.ref D) == some (.type "type")) = true then PySem.W.subIn K (.ref C) (.ref D) else none) = some b
    rw [if_pos e2, h]
end
end OwnR

set_option Elab.async false
set_option linter.all false
set_option maxRecDepth 100000
set_option maxHeartbeats 2000000
namespace Sl
open PySem PySem.Spec L2 OwnR LamX
section
variable {P : Program} {w : World} {K : PySem.W.Frag} {mg : Str → Option Value} {base : Heap}
/-! ### is_number of anything -/
/-- a number within limits -/
def numB : V → Int → Int → Bool
  | .int i, lo, hi => decide (lo ≤ i) && decide (i ≤ hi)
  | _, _, _ => false
/-- what may be asked: a number, None, a bool, a text -/
def Plain (v : V) : Prop := (∃ i, v = .int i) ∨ v = .non ∨ (∃ b, v = .bl b) ∨ ∃ z, v = .str z
def spIsNumV : Sp := fun vs H Q _ => ∃ (v : V) (lo hi : Int), vs = [v, .int lo, .int hi] ∧ Plain v ∧ Q (.bl (numB v lo hi)) H
theorem ok_isNumV {f : Addr} {fd : FuncData} (F : Fun K "is_number" "is_number" sIsNumber f fd) (M : Mg mg) : FnOk P w K mg base CX0 1 f fd ["value", "least", "most"] spIsNumV := by
  refine F.ok scIsNumber (fun vs H Q E h => ?_) (fun cdv A outer s H vs Q E hr h => ?_)
  · obtain ⟨i, lo, hi, rfl, _⟩ := h
    rfl
  · obtain ⟨v, lo, hi, rfl, hv, k⟩ := h
    refine ⟨_, pss_one (ps_ret (pe_and (pe_callB call_isi (by rfl) M.isinstance boot_isinstance (pa_cons (pv 0) (pa_cons (pe_bltn (v := .ty "int") (by rfl) M.int boot_tInt rfl) pa_nil)))
      (pe_and (pe_not (pe_callB call_isi (by rfl) M.isinstance boot_isinstance (pa_cons (pv 0) (pa_cons (pe_bltn (v := .ty "bool") (by rfl) M.bool boot_tBool rfl) pa_nil))))
        (pe_one (pe_chain op_le op_le (pv 1) (pv 0) (pv 2)))))), ?_⟩
    rcases hv with ⟨i, rfl⟩ | rfl | ⟨b, rfl⟩ | ⟨z, rfl⟩
    · refine ⟨_, rfl, _, _, _, _, true, rfl, .ty _, .base (.int i), kit_ty (by decide +kernel), true, rfl, iteT ?_⟩
      refine ⟨_, rfl, _, _, _, _, false, rfl, .ty _, .base (.int i), kit_ty (by decide +kernel), false, rfl, true, rfl, iteT ?_⟩
      refine ⟨_, rfl, _, rfl, lo, i, rfl, rfl, _, rfl, ?_⟩
      have k : Q (.bl (decide (lo ≤ i) && decide (i ≤ hi))) H := k
      by_cases h1 : lo ≤ i
      · rw [decide_eq_true h1] at k ⊢
        exact iteT ⟨_, rfl, i, hi, rfl, rfl, by simpa using k⟩
      · rw [decide_eq_false h1] at k ⊢
        exact iteF (by simpa using k)
    · exact ⟨_, rfl, _, _, _, _, false, rfl, .ty _, .base .non, kit_ty (by decide +kernel), false, rfl, iteF k⟩
    · refine ⟨_, rfl, _, _, _, _, true, rfl, .ty _, .base (.bl b), kit_ty (by decide +kernel), true, rfl, iteT ?_⟩
      exact ⟨_, rfl, _, _, _, _, true, rfl, .ty _, .base (.bl b), kit_ty (by decide +kernel), true, rfl, false, rfl, iteF k⟩
    · exact ⟨_, rfl, _, _, _, _, false, rfl, .ty _, .base (.str z), kit_ty (by decide +kernel), false, rfl, iteF k⟩
/-- an own class of errors that is made with a text -/
structure ErrT (K : PySem.W.Frag) (mg : Str → Option Value) (x : Str) (C : Addr) : Prop where
  q : PySem.W.excIn K C [.type "ValueError", .type "Exception", .type "BaseException", .type "object"] "ValueError.__new__" = true
  g : mg x = some (.ref C)
  k : PySem.W.keepIn K (.ref C) = true
  b : PySem.W.subIn K (.ref C) (.type "BaseException") = some true
  t : PySem.W.typeIn K (.ref C) = some (.type "type")
theorem pmk_errT {X : Cx} {C : Addr} {x m : Str} {j : Nat} {p p2 pos : Pos} (e : ErrT X.K X.mg x C) (hg : Gl X x) (hdb : (x == ("__debug__" : Str)) = false := by decide) : PMk X (.Call (.Name x p) [.Constant (.str m) j p2] [] pos) (fun _ H Q => Q (.ref C) none H) :=
  pmk_own PySem.F.excBase_ValueError e.q e.g e.k (raises_own e.b e.t) hg hdb
end
end Sl

set_option Elab.async false
set_option linter.all false
set_option maxRecDepth 100000
set_option maxHeartbeats 2000000
namespace Sl
open PySem PySem.Spec L2 OwnR LamX
theorem sameNew {H : Hp} {p : Addr} (h : H p = none) (o : HO) : Same H (upd H p o) := fun b x e => by rw [upd_ne (ne_of_none e h)]; exact e
end Sl
namespace Sl
open PySem PySem.Spec L2 OwnR LamX
section
variable {P : Program} {w : World} {K : PySem.W.Frag} {mg : Str → Option Value} {base : Heap}
def spEInit (C : Addr) (fld : Str) : Sp := fun vs H Q _ => ∃ (a : Addr) (v : V), vs = [.ref a, v] ∧ H a = some (exo a C none) ∧ ∀ dx, H dx = none → dx ≠ a → Q .non (upd (upd H dx (exd dx [(fld, v)])) a (exo a C (some dx)))
/-- an own class of errors with an __init__ of its own -/
structure ErrF (P : Program) (w : World) (K : PySem.W.Frag) (mg : Str → Option Value) (base : Heap) (x fld : Str) (C : Addr) : Prop where
  T : OexC K C
  g : mg x = some (.ref C)
  init : ∃ fI fd ps, PySem.W.findIn K (.ref C) "__init__" = some (some (.ref fI)) ∧ PySem.W.typeIn K (.ref fI) = some (.type "function") ∧ Binds K fd ps [] ∧ FnOk P w K mg base CX0 1 fI fd ps (spEInit C fld)
def nSInit : List Str := ["self", "index"]
theorem scSInit : FnScope nSInit ["self", "index"] (defScope sUnknownSectionInit) := ⟨rfl, rfl, rfl, by decide +kernel, rfl, by decide +kernel, by decide +kernel⟩
theorem ok_sInit {f C : Addr} {fd : FuncData} (F : Fun K "__init__" "UnknownSection.__init__" sUnknownSectionInit f fd) (T : OexC K C) (hno : PySem.W.findIn K (.ref C) "index" = some none) : FnOk P w K mg base CX0 1 f fd ["self", "index"] (spEInit C "index") := by
  refine F.ok scSInit (fun vs H Q E h => ?_) (fun cdv A outer s H vs Q E hr h => ?_)
  · obtain ⟨a, v, rfl, _⟩ := h
    rfl
  · obtain ⟨a, v, rfl, ha, k⟩ := h
    have nd := scSInit.nd
    refine ⟨_, pss_one (ps_ost (pv 0) (pv 1)), ?_⟩
    exact ⟨_, rfl, _, rfl, a, C, rfl, T, hno, .inl ⟨ha, fun dx h1 h2 => k dx h1 h2⟩⟩
/-- the error that is raised with v -/
def FldE (C : Addr) (fld : Str) (v : V) (H : Hp) (E : XK) : Prop := ∀ H' d fs, Same H H' → H' d = some (.xd fs) → fs.lookup fld = some v → E (.ref C) (some d) H'
theorem fld_mk {C : Addr} {fld : Str} {v : V} {H H1 : Hp} {E : XK} (k : FldE C fld v H E) (s : Same H H1) : ∀ a, H1 a = none → spEInit C fld (.ref a :: ([v] ++ [])) (upd H1 a (exo a C none))
    (fun r H2 => r = .non ∧ ∃ (d : Addr) (fs : List (Str × V)), H2 a = some (exo a C (some d)) ∧ H2 d = some (exd d fs) ∧ H1 d = none ∧ E (.ref C) (some d) (upd (del H2 a) d (.xd fs))) (fun _ _ _ => False) := by
  intro a ha
  refine ⟨a, v, rfl, upd_same, fun dx hdx ne => ⟨rfl, dx, [(fld, v)], upd_same, ?_, ?_, ?_⟩⟩
  · rw [upd_ne ne, upd_same]
  · rw [upd_ne ne] at hdx
    exact hdx
  · have hdx1 : H1 dx = none := by rw [upd_ne ne] at hdx; exact hdx
    refine k _ dx [(fld, v)] (fun b o e => ?_) upd_same (by simp [List.lookup])
    have nb : b ≠ dx := fun z => by rw [z] at e; have := s _ _ e; rw [hdx1] at this; cases this
    have na : b ≠ a := fun z => by rw [z] at e; have := s _ _ e; rw [ha] at this; cases this
    rw [upd_ne nb, del_ne na, upd_ne na, upd_ne nb, upd_ne na]
    exact s _ _ e
end
end Sl
namespace Sl
open PySem PySem.Spec L2 OwnR LamX
/-- sections that are wide, too -/
def widen (secs : List Sec) (ixs : List Nat) : List Sec := secs.mapIdx fun i s => (decide (i ∈ ixs) || s.1, s.2)
theorem widen_get {secs : List Sec} {ixs : List Nat} {i : Nat} {s : Sec} (h : secs[i]? = some s) : (widen secs ixs)[i]? = some (decide (i ∈ ixs) || s.1, s.2) := by
  unfold widen
  rw [List.getElem?_mapIdx, h]
  rfl
theorem widen_len (secs : List Sec) (ixs : List Nat) : (widen secs ixs).length = secs.length := by
  unfold widen
  rw [List.length_mapIdx]
theorem widen_ok {secs : List Sec} (S : SecsOk secs) (ixs : List Nat) : SecsOk (widen secs ixs) where
  ne := fun z => by
    have := congrArg List.length z
    rw [widen_len] at this
    exact S.ne (List.length_eq_zero_iff.mp this)
  few := by rw [widen_len]; exact S.few
  len := fun s hs => by
    obtain ⟨i, hi⟩ := List.mem_iff_getElem?.mp hs
    have il : i < secs.length := by
      have := (List.getElem?_eq_some_iff.mp hi).1
      rw [widen_len] at this
      exact this
    rw [widen_get (List.getElem?_eq_getElem il)] at hi
    rw [← Option.some.inj hi]
    have := S.len secs[i] (List.getElem_mem il)
    exact this
theorem kindS_true : kindS true = ("wide" : Str) := rfl
theorem in_nats (a : Nat) : ∀ l : List Nat, inV (V.int ((a : Nat) : Int)) (l.map fun n => V.int ((n : Nat) : Int)) = decide (a ∈ l)
  | [] => rfl
  | b :: l => by
    have ih := in_nats a l
    unfold inV at ih ⊢
    rw [List.map_cons, List.any_cons, ih]
    by_cases e : a = b
    · subst e
      simp [eqV]
    · have : ¬ ((a : Nat) : Int) = ((b : Nat) : Int) := by omega
      simp [eqV, e, this]
      intro z
      omega
theorem flat_nats (l : List Nat) : (l.map fun n => V.int ((n : Nat) : Int)).all flatV = true := by
  rw [List.all_map]
  exact List.all_eq_true.mpr fun _ _ => rfl
section
variable {P : Program} {w : World} {K : PySem.W.Frag} {mg : Str → Option Value} {base : Heap}
def spWid0 (C : Addr) : Sp := fun vs H Q _ => ∃ (p t : Addr) (secs : List Sec) (ixs : List Nat), vs = [.ref p, .ref t] ∧ H t = some (.tup (ixs.map fun n => V.int ((n : Nat) : Int))) ∧ RoadAt C H p secs ∧ SecsOk secs ∧ ixs.length ≤ 1000 ∧ (∀ i ∈ ixs, i < secs.length) ∧
  ∀ H' q, Same H H' → RoadAt C H' q (widen secs ixs) → Q (.ref q) H'
abbrev spWid (C : Addr) : Sp := fun vs H Q E => ∃ ws rest, vs = ws ++ rest ∧ ws.length = (["self"] : List Str).length ∧ rest.length ≤ sizeLine ∧ ∀ p, H p = Option.none → spWid0 C (ws ++ [V.ref p]) (upd H p (.tup rest)) Q E
def nWid : List Str := ["self", "indexes", "index", "sections", "at", "kind", "length"]
theorem scWid : FnScope nWid ["self", "indexes"] (defScope sRWidened) := ⟨rfl, rfl, rfl, by decide +kernel, rfl, by decide +kernel, by decide +kernel⟩
theorem ok_widened {f fI fB C lp kp : Addr} {fd dB : FuncData} (F : Fun K "widened" "Road.widened" sRWidened f fd) (M : Mg mg) (R : RoadT K w mg C lp kp) (MK : Mk K C fI)
    (GI : FnR P w K mg base CX0 3 fI (spRInit C)) (BB : Fb K mg "is_number" sIsNumber ["value", "least", "most"] fB dB) (GB : FnOk P w K mg base CX0 1 fB dB ["value", "least", "most"] spIsNumber) : FnR P w K mg base CX0 5 f (spWid C) := by
  obtain ⟨oc, od, kV, doc, pm, an, cdv, ct, osl, rfl, lk, hcd⟩ := F.ex
  refine StX.fn_star lk hcd scWid StX.cxUp_none (StX.bind_star1 (p1 := "self") (pv := "indexes") (B := fun xs => bindArgs (PySem.W.fnOf "widened" "Road.widened" (defArgs sRWidened) (defBody sRWidened) (defScope sRWidened) .none kV doc pm an cdv ct) ⟨xs, []⟩) (fun _ => rfl) (fun _ _ _ => rfl)) fun A outer s H vs Q E hr h => ?_
  obtain ⟨p, t, secs, ixs, rfl, ht, ⟨dx, at_, u, hp, ⟨ts, a2, a3, a4⟩, hu⟩, S, i1000, hix, k⟩ := h
  have nd := scWid.nd
  have hr1 : Room 1 (A.deeper (PyProof.Rows.envOfC "Road.widened" (defScope sRWidened) s.heap.objs.size f cdv)) := hr.mono (by decide)
  refine ⟨_, PSs.nox (pss_cons (ps_for PassesOwn.never rfl (pi_tup (pv 1)) (pg_name (i := 2) nd rfl (.inl rfl))
      (pss_one (ps_if (pt_not (pt_val (pe_call GB hr1 (by rfl) BB.at_ BB.fn.kp BB.bd .nil pass0 (pa_cons (pv 2) (pa_cons pe_int (pa_cons (pe_op op_sub (pe_callB call_len_seq (by rfl) M.len boot_len (pa_cons (pe_fld (pv 0) rfl) pa_nil)) pe_int) pa_nil)))))) (pss_one ps_never) pss_nil)))
    (pss_cons (ps_setLc (i := 3) (own := [("at", 4), ("kind", 5), ("length", 6)]) (g := gTup K 2 (gCons (gName 4) (gCons (gTup K 2 (gCons (gName 5) (gCons (gName 6) gNil))) gNil))) (tt := tYes) (te := tTup (tCons (tIf (tTest (tOp (rIn K false) (tVar 4) (tVar 1))) (tC (.str "wide")) (tVar 5)) (tCons (tVar 6) tNil))) (by rfl) nd rfl rfl (sw_true rfl rfl rfl (by decide +kernel))
        (pi_enumT (by rfl) M.enumerate (pa_cons (pe_fld (pv 0) rfl) pa_nil)) (blkOk_by (N := nWid) (sc := defScope sRWidened) (by decide +kernel))
        (fun _ _ _ _ _ => pg_tup rfl (pgs_cons (pg_name (i := 4) nd rfl (Or.inl rfl)) (pgs_cons (pg_tup rfl (pgs_cons (pg_name (i := 5) nd rfl (Or.inl rfl)) (pgs_cons (pg_name (i := 6) nd rfl (Or.inl rfl)) pgs_nil))) pgs_nil))) (fun _ _ _ _ _ => pts_nil)
        (fun _ _ _ _ _ => pe_tup (pa_cons (pe_ifExp (pt_cmpR op_in_seq (pv 4) (pv 1) (by rfl)) pe_str (pv 5)) (pa_cons (pv 6) pa_nil))))
    (pss_one (ps_ret (pe_makeGS MK GI hr pass0 (by rfl) R.mgC (pv 3)))))), ?_⟩
  have few := S.few
  have hts : (ts.map V.ref).length = secs.length := by rw [List.length_map, a3]
  refine ⟨_, rfl, t, rfl, ⟨_, SqT.of ht⟩, for_it walk_tup (fun i σ H1 => ∃ v2, σ = [some (.ref p), some (.ref t), v2, none, none, none, none] ∧ Same H H1) ⟨none, rfl, Same.refl H⟩ (fun i σ H1 _ ⟨_, _, s1⟩ => SqT.of (s1 _ _ ht)) ?_ ?_⟩
  · rintro i y σ H1 H2 hi ⟨v2, rfl, s1⟩ ⟨e, hy⟩
    subst e
    obtain ⟨n, hn, rfl⟩ : ∃ n, ixs[i]? = some n ∧ y = V.int ((n : Nat) : Int) := by
      rw [List.getElem?_map] at hy
      obtain ⟨t, z1, z2⟩ := Option.map_eq_some_iff.mp hy
      exact ⟨t, z1, z2.symm⟩
    have nl := hix n (List.mem_of_getElem? hn)
    refine ⟨_, rfl, _, rfl, p, C, dx, _, _, rfl, s1 _ _ hp, R.cl, R.nS, rf_sections _ _, at_, _, rfl, .inr (SqT.of (s1 _ _ a2)), _, _, rfl, rfl, (n : Nat), 0, _, rfl, true, ?_, iteF ⟨_, rfl, s1⟩⟩
    rw [hts]
    rw [decide_eq_true (by omega : (0 : Int) ≤ (n : Int)), decide_eq_true (by omega : (n : Int) ≤ ((secs.length : Nat) : Int) - 1)]
    rfl
  · rintro σ H1 ⟨v2, rfl, s1⟩
    refine ⟨_, rfl, p, C, dx, _, _, rfl, s1 _ _ hp, R.cl, R.nS, rf_sections _ _, at_, _, rfl, SqT.of (s1 _ _ a2), fun D hD => ?_⟩
    have hDH : H D = none := by
      cases q : H D with
      | none => rfl
      | some o => rw [s1 _ _ q] at hD; cases hD
    refine lc_it walk_enumT (fun i H2 => Same H1 H2 ∧ ∃ us : List Addr, H2 D = some (.lst (us.map V.ref)) ∧ us.length = i ∧ ∀ (q : Nat) (t : Addr) (s : Sec), us[q]? = some t → (widen secs ixs)[q]? = some s → H2 t = some (.tup (secV s)))
      ⟨sameNew hD _, [], upd_same, rfl, fun q t c e => by simp at e⟩ (fun i H2 _ ⟨k2, _⟩ => SqT.of (k2 _ _ (s1 _ _ a2))) ?_ ?_
    · rintro i y H2 H3 hi ⟨k2, us, u1, u2, u3⟩ ⟨T, x1, x2, rfl, hT, rfl, e1, e2⟩
      cases e1
      have hic : i < secs.length := by rw [hts] at hi; exact hi
      have e2 : (ts.map V.ref)[i]? = some x2 := e2
      obtain ⟨tt, htt, rfl⟩ : ∃ t, ts[i]? = some t ∧ x2 = V.ref t := by
        rw [List.getElem?_map] at e2
        obtain ⟨t, z1, z2⟩ := Option.map_eq_some_iff.mp e2
        exact ⟨t, z1, z2.symm⟩
      have hc : secs[i]? = some secs[i] := List.getElem?_eq_getElem hic
      have sT := sameNew hT (.tup [V.int ((i : Nat) : Int), V.ref tt])
      have s12 := s1.trans (k2.trans sT)
      have hct := s12 _ _ (a4 i tt _ htt hc)
      have hw := widen_get (ixs := ixs) hc
      refine ⟨T, _, rfl, SqT.of upd_same, rfl, _, _, rfl, _, _, rfl, ⟨tt, _, rfl, SqT.of hct, rfl, _, _, rfl, _, _, rfl, rfl, rfl, rfl, yes_of ?_⟩⟩
      refine ⟨_, rfl, _, rfl, t, _, rfl, .inr (SqT.of (s12 _ _ ht)), rfl, flat_nats ixs, _, rfl, ?_⟩
      show if inV (V.int ((i : Nat) : Int)) (ixs.map fun n => V.int ((n : Nat) : Int)) = true then _ else _
      rw [in_nats]
      have fin : ∀ s' : Sec, (widen secs ixs)[i]? = some s' → ∀ x, (upd H2 T (.tup [V.int ((i : Nat) : Int), V.ref tt])) x = none → ∃ acc, (upd (upd H2 T (.tup [V.int ((i : Nat) : Int), V.ref tt])) x (.tup (secV s'))) D = some (.lst acc) ∧ acc.length < sizeLine ∧ (Same H1 (upd (upd (upd H2 T (.tup [V.int ((i : Nat) : Int), V.ref tt])) x (.tup (secV s'))) D (.lst (acc ++ [.ref x]))) ∧ ∃ us : List Addr, (upd (upd (upd H2 T (.tup [V.int ((i : Nat) : Int), V.ref tt])) x (.tup (secV s'))) D (.lst (acc ++ [.ref x]))) D = some (.lst (us.map V.ref)) ∧ us.length = i + 1 ∧ ∀ (q : Nat) (t : Addr) (s : Sec), us[q]? = some t → (widen secs ixs)[q]? = some s → (upd (upd (upd H2 T (.tup [V.int ((i : Nat) : Int), V.ref tt])) x (.tup (secV s'))) D (.lst (acc ++ [.ref x]))) t = some (.tup (secV s))) := fun s' hs' x hx => by
        have sx := sameNew hx (.tup (secV s'))
        have sTx := sT.trans sx
        have u1' := sTx _ _ u1
        refine ⟨_, u1', by rw [List.length_map, u2]; exact small1000 (by omega), fun b o e => by rw [upd_ne (ne_of_none e hD)]; exact sTx _ _ (k2 _ _ e), us ++ [x], by rw [upd_same, List.map_append]; rfl, by rw [List.length_append, u2]; rfl, fun q t s e1 e2 => ?_⟩
        have key : (upd (upd H2 T (.tup [V.int ((i : Nat) : Int), V.ref tt])) x (.tup (secV s'))) t = some (.tup (secV s)) := by
          rcases snoc_get e1 with e1 | ⟨hq, rfl⟩
          · exact sTx _ _ (u3 q t s e1 e2)
          · rw [u2] at hq
            rw [hq, hs'] at e2
            rw [← Option.some.inj e2]
            exact upd_same
        rw [upd_ne (ne_of key u1' (by intro z; cases z))]
        exact key
      by_cases hm : i ∈ ixs
      · rw [decide_eq_true hm]
        rw [decide_eq_true hm, Bool.true_or] at hw
        refine iteT ⟨_, rfl, by show 2 ≤ sizeLine; decide, fun x hx => ?_⟩
        exact fin _ hw x hx
      · rw [decide_eq_false hm]
        rw [decide_eq_false hm, Bool.false_or] at hw
        refine iteF ⟨_, rfl, _, rfl, by show 2 ≤ sizeLine; decide, fun x hx => ?_⟩
        exact fin _ hw x hx
    · rintro H2 ⟨k2, us, u1, u2, u3⟩
      rw [hts] at u2
      have W := widen_ok S ixs
      have wl := widen_len secs ixs
      refine ⟨rfl, _, rfl, D, us.map V.ref, rfl, .inr (SqL.of u1), fun x dx' hx hdx ne => ?_⟩
      refine ⟨[.ref x], us.map V.ref, rfl, rfl, by rw [List.length_map, u2]; exact Nat.le_of_lt (small1000 (by omega)), fun t' ht' => ?_⟩
      have hxt : x ≠ t' := fun z => by
        rw [← z, upd_same] at ht'
        cases ht'
      have old : ∀ b o, H2 b = some o → (upd (upd (upd H2 dx' (.own x)) x (.ins C dx' [])) t' (.tup (us.map V.ref))) b = some o := fun b o e => by
        have e2 : (upd (upd H2 dx' (.own x)) x (.ins C dx' [])) b = some o := by
          rw [upd_ne (ne_of_none e hx), upd_ne (ne_of_none e hdx)]
          exact e
        rw [upd_ne (ne_of_none e2 ht')]
        exact e2
      refine ⟨x, dx', t', widen secs ixs, rfl, by rw [upd_ne hxt, upd_same], ⟨us, upd_same, by rw [u2, wl], fun i a s e1 e2 => old _ _ (u3 i a s e1 e2)⟩, W, fun H4 uu kp hX huu => ⟨rfl, ?_⟩⟩
      refine k H4 x (fun b o e => ?_) ⟨dx', t', uu, hX, ⟨us, kp _ _ upd_same hxt.symm, by rw [u2, wl], fun i a s e1 e2 => ?_⟩, huu⟩
      · have e2 := k2 _ _ (s1 _ _ e)
        exact kp b o (old _ _ e2) (ne_of_none e2 hx)
      · have q := u3 i a s e1 e2
        exact kp _ _ (old _ _ q) (ne_of_none q hx)
end
end Sl
namespace Sl
open PySem PySem.Spec L2 OwnR LamX
theorem KeepB.notlst {r : Addr} {H H' : Hp} {xs : List V} (k : KeepB r H H') (hr : H r = some (.lst xs)) : ∀ b o, H b = some o → (∀ ys, o ≠ .lst ys) → H' b = some o := fun b o e n => k b o e (ne_of e hr (n _))
theorem RowAt.ext {K : PySem.W.Frag} {H H' : Hp} {r sc : Addr} {ns : List Int} (R : RowAt K H r sc ns) (e : ExtN H H') : RowAt K H' r sc ns := by
  refine ⟨let ⟨a, b, c, h⟩ := R.at_; ⟨a, b, c, ExtN.lst e h⟩, fun H2 k => ?_⟩
  have hG : KeepB r H (fun x => match H x with | some (.tbl ps) => some (.tbl ps) | _ => H2 x) := fun b o eb n => by
    show (match H b with | some (.tbl ps) => some (.tbl ps) | _ => H2 b) = some o
    rw [eb]
    cases o <;> first | rfl | exact k _ _ (e _ _ eb (fun _ z => nomatch z)) n
  rcases R.scr _ hG with (h | ⟨o, h⟩) | h
  · have h : (match H sc with | some (.tbl ps) => some (.tbl ps) | _ => H2 sc) = some (.lst (ns.map V.int)) := h
    split at h
    · cases h
    · exact .inl (.inl h)
  · have h : (match H sc with | some (.tbl ps) => some (.tbl ps) | _ => H2 sc) = some (.frz o (.lst (ns.map V.int))) := h
    split at h
    · cases h
    · exact .inl (.inr ⟨o, h⟩)
  · exact .inr h
theorem RunsAt.ext2 {H H' : Hp} {a : Addr} {secs : List Sec} (h : RunsAt H a secs) (e : ExtN H H') : RunsAt H' a secs := by
  obtain ⟨ts, h1, h2, h3⟩ := h
  exact ⟨ts, ExtN.lst e h1, h2, fun i t s e1 e2 => ExtN.tup e (h3 i t s e1 e2)⟩
theorem RunsAt.keep {H H' : Hp} {r a : Addr} {secs : List Sec} {xs : List V} (h : RunsAt H a secs) (k : KeepB r H H') (n : a ≠ r) (hr : H r = some (.lst xs)) : RunsAt H' a secs := by
  obtain ⟨ts, h1, h2, h3⟩ := h
  exact ⟨ts, k _ _ h1 n, h2, fun i t v e1 e2 => k _ _ (h3 i t v e1 e2) (ne_of (h3 i t v e1 e2) hr (by intro z; cases z))⟩
theorem TupsAt.ext {H H' : Hp} {a : Addr} {vss : List (List V)} (h : TupsAt H a vss) (e : ExtN H H') : TupsAt H' a vss := by
  obtain ⟨ts, h1, h2, h3⟩ := h
  exact ⟨ts, ExtN.lst e h1, h2, fun i t v e1 e2 => ExtN.tup e (h3 i t v e1 e2)⟩
theorem RoadAt.ext2 {C : Addr} {H H' : Hp} {p : Addr} {secs : List Sec} (h : RoadAt C H p secs) (e : ExtN H H') : RoadAt C H' p secs := by
  obtain ⟨dx, t, u, h1, h2, h3⟩ := h
  exact ⟨dx, t, u, ExtN.ins e h1, h2.ext e, h3⟩
end Sl
namespace Sl
open PySem PySem.Spec L2 OwnR LamX
theorem RoadAt.keepB {CR : Addr} {H H' : Hp} {p r : Addr} {secs : List Sec} {xs : List V} (h : RoadAt CR H p secs) (k : KeepB r H H') (hr : H r = some (.lst xs)) : RoadAt CR H' p secs := by
  obtain ⟨dx, t, u, h1, ⟨ts, a1, a2, a3⟩, h3⟩ := h
  have nl := k.notlst hr
  exact ⟨dx, t, u, nl _ _ h1 fun _ z => (nomatch z), ⟨ts, nl _ _ a1 fun _ z => (nomatch z), a2, fun i t s e1 e2 => nl _ _ (a3 i t s e1 e2) fun _ z => nomatch z⟩, h3⟩
section
variable {P : Program} {w : World} {K : PySem.W.Frag} {mg : Str → Option Value} {base : Heap}
end
end Sl

set_option Elab.async false
set_option linter.all false
set_option maxRecDepth 100000
set_option maxHeartbeats 2000000
namespace Sl
open PySem PySem.Spec L2 OwnR LamX
section
variable {P : Program} {w : World} {K : PySem.W.Frag} {mg : Str → Option Value} {base : Heap}
/-! ### what is no section -/
def SecBad (H : Hp) (v : V) : Prop := v = .non ∨ (∃ a xs, v = .ref a ∧ H a = some (.lst xs)) ∨ (∃ a xs, v = .ref a ∧ H a = some (.tup xs) ∧ xs.length ≠ 2) ∨ ∃ (a : Addr) (z : Str) (v2 : V), v = .ref a ∧ H a = some (.tup [.str z, v2]) ∧ Plain v2 ∧ (¬ (z = "narrow" ∨ z = "wide") ∨ numB v2 1 99 = false)
theorem SecBad.same {H H' : Hp} {v : V} (h : SecBad H v) (e : Same H H') : SecBad H' v := by
  rcases h with h | ⟨a, xs, h1, h2⟩ | ⟨a, xs, h1, h2, h3⟩ | ⟨a, z, v2, h1, h2, h3⟩
  · exact .inl h
  · exact .inr (.inl ⟨a, xs, h1, e _ _ h2⟩)
  · exact .inr (.inr (.inl ⟨a, xs, h1, e _ _ h2, h3⟩))
  · exact .inr (.inr (.inr ⟨a, z, v2, h1, e _ _ h2, h3⟩))
def spIsSecB : Sp := fun vs H Q _ => ∃ v : V, vs = [v] ∧ SecBad H v ∧ ∀ H', Same H H' → Q (.bl false) H'
theorem ok_isSecB {f fB : Addr} {fd dB : FuncData} (F : Fb K mg "_is_section" sIsSection ["value"] f fd) (M : Mg mg) (BB : Fb K mg "is_number" sIsNumber ["value", "least", "most"] fB dB)
    (GB : FnOk P w K mg base CX0 1 fB dB ["value", "least", "most"] spIsNumV) : FnOk P w K mg base CX0 2 f fd ["value"] spIsSecB := by
  obtain ⟨t1, M1⟩ := M.longestSection
  refine F.fn.ok scIsSection (fun vs H Q E h => ?_) (fun cdv A outer s H vs Q E hr h => ?_)
  · obtain ⟨v, rfl, _⟩ := h
    rfl
  · obtain ⟨v, rfl, hb, k⟩ := h
    have nd := scIsSection.nd
    refine ⟨_, pss_cons (ps_if (PW.pt (pw_or (pt_not (pt_val (pe_callB call_isi (by rfl) M.isinstance boot_isinstance (pa_cons (pv 0) (pa_cons (pe_bltn (v := .ty "tuple") (by rfl) M.tuple boot_tTuple rfl) pa_nil)))))
        (pw_or1 (pt_cmpR op_ne (pe_callB call_len_seq (by rfl) M.len boot_len (pa_cons (pv 0) pa_nil)) pe_int (nomark _))))) (pss_one (ps_ret pe_bl)) pss_nil)
      (pss_cons (ps_asg (pv 0) (pg_tup (by rfl) (pgs_cons (pg_name (i := 1) nd rfl (.inl rfl)) (pgs_cons (pg_name (i := 2) nd rfl (.inl rfl)) pgs_nil))))
      (pss_one (ps_ret (pe_and (pe_cmpR op_in_seq (pv 1) (pe_tup (pa_cons pe_str (pa_cons pe_str pa_nil))) (by rfl))
          (pe_one (pe_call GB hr (by rfl) BB.at_ BB.fn.kp BB.bd .nil pass0 (pa_cons (pv 2) (pa_cons pe_int (pa_cons (pe_glob (v := .int 99) (by rfl) M1 ⟨_, rfl⟩) pa_nil))))))))), ?_⟩
    rcases hb with rfl | ⟨a, xs, rfl, ha⟩ | ⟨a, xs, rfl, ha, hl⟩ | ⟨a, z, v2, rfl, ha, hp, hbad⟩
    · exact ⟨_, rfl, _, _, _, _, false, rfl, .ty _, .base .non, kit_ty (by decide +kernel), false, rfl, iteT (k _ (Same.refl _))⟩
    · exact ⟨_, rfl, _, _, _, _, false, rfl, .ty _, .base (.lst ha), kit_ty (by decide +kernel), false, rfl, iteT (k _ (Same.refl _))⟩
    · refine ⟨_, rfl, _, _, _, _, true, rfl, .ty _, .base (.tup ha), kit_ty (by decide +kernel), true, rfl, iteF ?_⟩
      refine ⟨_, rfl, a, _, rfl, .inr (SqT.of ha), rfl, true, ?_, iteT (k _ (Same.refl _))⟩
      rw [decide_eq_false (by intro z; injection z with z; omega)]
      rfl
    · refine ⟨_, rfl, _, _, _, _, true, rfl, .ty _, .base (.tup ha), kit_ty (by decide +kernel), true, rfl, iteF ?_⟩
      refine ⟨_, rfl, a, _, rfl, .inr (SqT.of ha), rfl, false, rfl, iteF ?_⟩
      refine ⟨_, rfl, a, _, rfl, SqT.of ha, rfl, _, _, rfl, _, _, rfl, rfl, ?_⟩
      refine ⟨_, rfl, by show 2 ≤ sizeLine; decide, fun p hpp => ?_⟩
      have s1 := sameNew hpp (.tup [V.str "narrow", V.str "wide"])
      refine ⟨p, _, rfl, .inr (SqT.of upd_same), rfl, rfl, decide (z ∈ (["narrow", "wide"] : List Str)), ?_, ?_⟩
      · rw [← inV_str]
        rfl
      by_cases hz : z ∈ (["narrow", "wide"] : List Str)
      · rw [decide_eq_true hz]
        refine iteT ⟨_, rfl, v2, 1, 99, rfl, hp, ?_⟩
        have hz2 : z = "narrow" ∨ z = "wide" := by
          rcases List.mem_cons.mp hz with h | h
          · exact .inl h
          · exact .inr (List.mem_singleton.mp h)
        rcases hbad with hbad | hbad
        · exact absurd hz2 hbad
        · rw [hbad]
          exact k _ s1
      · rw [decide_eq_false hz]
        exact iteF (k _ s1)
def spIsSec : Sp := fun vs H Q E => spIsSection vs H Q E ∨ spIsSecB vs H Q E
/-! ### Road(..), of what makes no road -/
def spRInitU0 (C CI : Addr) : Sp := fun vs H Q E => ∃ (x dx t : Addr) (xs : List V) (i : Nat), vs = [.ref x, .ref t] ∧ H t = some (.tup xs) ∧ xs.length ≤ 1000 ∧ i < xs.length ∧ (∀ j, j < i → ∃ (tt : Addr) (s : Sec), xs[j]? = some (.ref tt) ∧ H tt = some (.tup (secV s)) ∧ 1 ≤ s.2 ∧ s.2 ≤ 99) ∧ i ≤ 12 ∧ (i = 12 ∨ ∃ v, xs[i]? = some v ∧ SecBad H v) ∧ FldE CI "index" (.int ((i : Nat) : Int)) H E
abbrev spRInitU (C CI : Addr) : Sp := fun vs H Q E => ∃ ws rest, vs = ws ++ rest ∧ ws.length = (["self"] : List Str).length ∧ rest.length ≤ sizeLine ∧ ∀ p, H p = Option.none → spRInitU0 C CI (ws ++ [V.ref p]) (upd H p (.tup rest)) Q E
theorem ok_rInitU {f fB C CI lp kp : Addr} {fd dB : FuncData} (F : Fun K "__init__" "Road.__init__" sRInit f fd) (M : Mg mg) (W : ErrF P w K mg base "InvalidRoad" "index" CI) (BB : Fb K mg "_is_section" sIsSection ["value"] fB dB)
    (GB : FnOk P w K mg base CX0 2 fB dB ["value"] spIsSec) : FnR P w K mg base (L2.CX P w) 4 f (spRInitU C CI) := by
  obtain ⟨t1, M1⟩ := M.mostSections
  obtain ⟨oc, od, kV, doc, pm, an, cdv, ct, osl, rfl, lk, hcd⟩ := F.ex
  obtain ⟨fI, dI, ps, w1, w2, w3, w4⟩ := W.init
  refine StX.fn_star lk hcd scRInit StX.cxUp (StX.bind_star1 (p1 := "self") (pv := "sections") (B := fun xs => bindArgs (PySem.W.fnOf "__init__" "Road.__init__" (defArgs sRInit) (defBody sRInit) (defScope sRInit) .none kV doc pm an cdv ct) ⟨xs, []⟩) (fun _ => rfl) (fun _ _ _ => rfl)) fun A outer s H vs Q E hr h => ?_
  obtain ⟨x, dx, t, xs, i0, rfl, ht, hx1000, hi0, hgood, h12, hbad, k⟩ := h
  have nd := scRInit.nd
  have hr2 : Room 2 (A.deeper (PyProof.Rows.envOfC "Road.__init__" (defScope sRInit) s.heap.objs.size f cdv)) := hr.mono (by decide)
  refine ⟨_, pss_cons (ps_if (pt_not (pt_truth (pv 1) (by intro _; rfl))) (pss_one ps_never) pss_nil)
    (pss_cons (ps_for (passes_of rfl) rfl (pi_enumT (by rfl) M.enumerate (pa_cons (pv 1) pa_nil)) (pg_tup rfl (pgs_cons (pg_name (i := 2) nd rfl (.inl rfl)) (pgs_cons (pg_name (i := 3) nd rfl (.inl rfl)) pgs_nil)))
      (pss_one (ps_if (PW.pt (pw_or (pt_cmpR op_eq (pv 2) (pe_glob (v := .int 12) (by rfl) M1 ⟨_, rfl⟩) (nomark _)) (pw_or1 (pt_not (pt_val (pe_call GB hr2 (by rfl) BB.at_ BB.fn.kp BB.bd .nil pass0 (pa_cons (pv 3) pa_nil)))))))
        (pss_one (ps_raise rfl (takes_of rfl rfl rfl rfl) (pmk_oex W.T w1 w2 w4 hr2 w3 .nil pass0 (by rfl) W.g (pa_cons (pv 2) pa_nil)))) pss_nil)))
    pss_never), ?_⟩
  have hne : xs.isEmpty = false := by
    cases xs with
    | nil => exact absurd hi0 (by simp)
    | cons _ _ => rfl
  refine ⟨_, rfl, true, .inr (.inl ⟨_, SqT.of ht, by rw [hne]; rfl⟩), iteF ?_⟩
  refine ⟨_, rfl, t, xs, rfl, SqT.of ht, for_it walk_enumT
    (fun i σ H1 => ∃ v2 v3, σ = [some (.ref x), some (.ref t), v2, v3] ∧ Same H H1 ∧ i ≤ i0)
    ⟨none, none, rfl, Same.refl H, Nat.zero_le _⟩ (fun i σ H1 _ ⟨_, _, _, s1, _⟩ => SqT.of (s1 _ _ ht)) ?_ ?_⟩
  · rintro i y σ H1 H2 hi ⟨v2, v3, rfl, s1, hle⟩ ⟨T, x1, x2, rfl, hT, rfl, e1, e2⟩
    cases e1
    have e2 : xs[i]? = some x2 := e2
    have sT := sameNew hT (.tup [V.int ((i : Nat) : Int), x2])
    have sA := s1.trans sT
    refine ⟨T, _, rfl, SqT.of upd_same, rfl, _, _, rfl, _, _, rfl, rfl, ?_⟩
    refine ⟨_, rfl, rfl, _, rfl, ?_⟩
    by_cases eq12 : i = 12
    · have e12 : V.int ((i : Nat) : Int) = V.int 12 := by rw [eq12]; rfl
      have ei : i = i0 := by omega
      rw [decide_eq_true e12]
      subst ei
      exact iteT ⟨_, rfl, by show 1 ≤ 1000; decide, fld_mk k sA⟩
    · have ne12 : ¬ (V.int ((i : Nat) : Int) = V.int 12) := fun z => by
        injection z with z
        omega
      rw [decide_eq_false ne12]
      refine iteF ?_
      rcases Nat.lt_or_ge i i0 with lt | ge
      · obtain ⟨tt, sc, g1, g2, g3, g4⟩ := hgood i lt
        rw [e2] at g1
        obtain rfl := Option.some.inj g1
        refine ⟨_, rfl, .inl ⟨tt, sc, rfl, sA _ _ g2, g3, g4, fun H3 s3 => ⟨true, rfl, iteF ?_⟩⟩⟩
        exact ⟨_, _, rfl, sA.trans s3, by omega⟩
      · have ei : i = i0 := by omega
        subst ei
        rcases hbad with h | ⟨v, hv, hb⟩
        · exact absurd h eq12
        · rw [e2] at hv
          obtain rfl := Option.some.inj hv
          refine ⟨_, rfl, .inr ⟨x2, rfl, hb.same sA, fun H3 s3 => ⟨false, rfl, iteT ?_⟩⟩⟩
          exact ⟨_, rfl, by show 1 ≤ 1000; decide, fld_mk k (sA.trans s3)⟩
  · rintro σ H1 ⟨v2, v3, rfl, s1, hle⟩
    omega
/-! ### widened, beyond the road -/
def spWidX0 (C CS : Addr) : Sp := fun vs H Q E => ∃ (p t : Addr) (secs : List Sec) (xs : List V) (j : Nat) (v : V), vs = [.ref p, .ref t] ∧ H t = some (.tup xs) ∧ RoadAt C H p secs ∧ SecsOk secs ∧ xs[j]? = some v ∧ Plain v ∧ numB v 0 (((secs.length : Nat) : Int) - 1) = false ∧ (∀ i, i < j → ∃ m : Nat, xs[i]? = some (.int ((m : Nat) : Int)) ∧ m < secs.length) ∧ FldE CS "index" v H E
abbrev spWidX (C CS : Addr) : Sp := fun vs H Q E => ∃ ws rest, vs = ws ++ rest ∧ ws.length = (["self"] : List Str).length ∧ rest.length ≤ sizeLine ∧ ∀ p, H p = Option.none → spWidX0 C CS (ws ++ [V.ref p]) (upd H p (.tup rest)) Q E
theorem ok_widenedX {f fB C CS lp kp : Addr} {fd dB : FuncData} (F : Fun K "widened" "Road.widened" sRWidened f fd) (M : Mg mg) (R : RoadT K w mg C lp kp) (W : ErrF P w K mg base "UnknownSection" "index" CS)
    (BB : Fb K mg "is_number" sIsNumber ["value", "least", "most"] fB dB) (GB : FnOk P w K mg base CX0 1 fB dB ["value", "least", "most"] spIsNumV) : FnR P w K mg base (L2.CX P w) 5 f (spWidX C CS) := by
  obtain ⟨oc, od, kV, doc, pm, an, cdv, ct, osl, rfl, lk, hcd⟩ := F.ex
  obtain ⟨fI, dI, ps, w1, w2, w3, w4⟩ := W.init
  refine StX.fn_star lk hcd scWid StX.cxUp (StX.bind_star1 (p1 := "self") (pv := "indexes") (B := fun xs => bindArgs (PySem.W.fnOf "widened" "Road.widened" (defArgs sRWidened) (defBody sRWidened) (defScope sRWidened) .none kV doc pm an cdv ct) ⟨xs, []⟩) (fun _ => rfl) (fun _ _ _ => rfl)) fun A outer s H vs Q E hr h => ?_
  obtain ⟨p, t, secs, xs, j, v, rfl, ht, ⟨dx, at_, u, hp, ⟨ts, a2, a3, a4⟩, hu⟩, S, hj, hv, hnb, hlt, k⟩ := h
  have nd := scWid.nd
  have hr1 : Room 1 (A.deeper (PyProof.Rows.envOfC "Road.widened" (defScope sRWidened) s.heap.objs.size f cdv)) := hr.mono (by decide)
  have hr2 : Room 2 (A.deeper (PyProof.Rows.envOfC "Road.widened" (defScope sRWidened) s.heap.objs.size f cdv)) := hr.mono (by decide)
  refine ⟨_, pss_cons (ps_for (passes_of rfl) rfl (pi_tup (pv 1)) (pg_name (i := 2) nd rfl (.inl rfl))
      (pss_one (ps_if (pt_not (pt_val (pe_call GB hr1 (by rfl) BB.at_ BB.fn.kp BB.bd .nil pass0 (pa_cons (pv 2) (pa_cons pe_int (pa_cons (pe_op op_sub (pe_callB call_len_seq (by rfl) M.len boot_len (pa_cons (pe_fld (pv 0) rfl) pa_nil)) pe_int) pa_nil))))))
        (pss_one (ps_raise rfl (takes_of rfl rfl rfl rfl) (pmk_oex W.T w1 w2 w4 hr2 w3 .nil pass0 (by rfl) W.g (pa_cons (pv 2) pa_nil)))) pss_nil))) pss_never, ?_⟩
  have few := S.few
  have hts : (ts.map V.ref).length = secs.length := by rw [List.length_map, a3]
  have jl : j < xs.length := (List.getElem?_eq_some_iff.mp hj).1
  refine ⟨_, rfl, t, rfl, ⟨_, SqT.of ht⟩, for_it walk_tup (fun i σ H1 => ∃ v2, σ = [some (.ref p), some (.ref t), v2, none, none, none, none] ∧ Same H H1 ∧ i ≤ j) ⟨none, rfl, Same.refl H, Nat.zero_le _⟩ (fun i σ H1 _ ⟨_, _, s1, _⟩ => SqT.of (s1 _ _ ht)) ?_ ?_⟩
  · rintro i y σ H1 H2 hi ⟨v2, rfl, s1, hij⟩ ⟨e, hy⟩
    subst e
    by_cases eij : i = j
    · subst eij
      rw [hj] at hy
      obtain rfl := Option.some.inj hy
      refine ⟨_, rfl, _, rfl, p, C, dx, _, _, rfl, s1 _ _ hp, R.cl, R.nS, rf_sections _ _, at_, _, rfl, .inr (SqT.of (s1 _ _ a2)), _, _, rfl, rfl, v, 0, _, rfl, hv, false, ?_, iteT ⟨_, rfl, by show 1 ≤ 1000; decide, fld_mk k s1⟩⟩
      rw [hts, hnb]
    · obtain ⟨m, hm, nl⟩ := hlt i (by omega)
      rw [hm] at hy
      obtain rfl := Option.some.inj hy
      refine ⟨_, rfl, _, rfl, p, C, dx, _, _, rfl, s1 _ _ hp, R.cl, R.nS, rf_sections _ _, at_, _, rfl, .inr (SqT.of (s1 _ _ a2)), _, _, rfl, rfl, .int ((m : Nat) : Int), 0, _, rfl, .inl ⟨_, rfl⟩, true, ?_, iteF ⟨_, rfl, s1, by omega⟩⟩
      rw [hts]
      show V.bl (decide ((0 : Int) ≤ (m : Int)) && decide ((m : Int) ≤ ((secs.length : Nat) : Int) - 1)) = V.bl true
      rw [decide_eq_true (by omega : (0 : Int) ≤ (m : Int)), decide_eq_true (by omega : (m : Int) ≤ ((secs.length : Nat) : Int) - 1)]
      rfl
  · rintro σ H1 ⟨v2, rfl, s1, hij⟩
    omega
end
end Sl

set_option Elab.async false
set_option linter.all false
set_option maxRecDepth 100000
set_option maxHeartbeats 4000000
/-! tuple * 1: the tuple itself -/
namespace L2
open PySem PySem.Spec PyProof.Rows
theorem tuple_mul1 (l : Addr) (items : Array Value) (n : Nat) (dd : Option Addr) (sl : Array (Option Value)) (u : Tok) :
    Meets (Builtin.«tuple.__mul__» ⟨[.ref l, .int 1 u], []⟩) (fun _ R s => s.heap.get? l = some { cls := .type "tuple", dict := dd, data := .seq items n, slots := sl } ∧ R (.ok (.ret (Value.ref l))) s) :=
  .of_wp fun prog w A R s h => by
    obtain ⟨hp, g, d, tk, os⟩ := s
    obtain ⟨hl, h⟩ := h
    have f1 := AutoSeq1.idx_int
    wp_walk using wpAny_loadPart' hl
    exact ⟨_, rfl, h⟩
def rRep1 (K : PySem.W.Frag) : R2 := fun x y H Q => ∃ l xs, x = .ref l ∧ y = .int 1 ∧ SqT K H l xs ∧ Q (.ref l) H
section
variable {X : Cx}
theorem op_rep1 : OpR X (binaryOp .Mult) (rRep1 X.K) := by
  intro pins s σ H x y v u Q I rx ry h
  obtain ⟨l, xs, rfl, rfl, hT, q⟩ := h
  cases rx
  obtain ⟨t, rfl⟩ := ry
  obtain ⟨its, r, ⟨⟨cls, dd, data, sl⟩, ho, hc, n, hd⟩, hs⟩ := I.tuple hT
  simp only at hc hd
  subst hc hd
  exact wpAny_binaryOp_repeat_ref (T := "tuple") (U := "int") (by decide) ⟨_, ho, rfl⟩ (fun s' => typeIs_int s' 1 t) noFill_tuple_mul F.fills_int_mul F.slot_int_rmul repeat_tuple F.slot_int_index.lookup
    (call_meets F.slot_int_rmul (typeIs_int s 1 t) F.entry_int_rmul (F.args_int_rmul_2 _ _) (int_rmul_tuple 1 t l its.toArray n dd sl)
      ⟨ho, rfl, ⟨_, ho, rfl⟩, call_meets F.slot_tuple_mul ⟨_, ho, rfl⟩ F.entry_tuple_mul (F.args_tuple_mul_2 _ _) (tuple_mul1 l its.toArray n dd sl t) ⟨ho, ⟨.ref l, H, I, rfl, q⟩⟩⟩)
/-- tuple * n, n at least 1 -/
theorem op_repN : OpR X (binaryOp .Mult) (fun x y H Q => ∃ (l : Addr) (n : Nat) (xs : List V), x = .ref l ∧ y = .int ((n : Nat) : Int) ∧ SqT X.K H l xs ∧ xs ≠ [] ∧ 1 ≤ n ∧ n ≤ 1000 ∧ xs.length ≤ 1000 ∧ (n = 1 → Q (.ref l) H) ∧ (2 ≤ n → ∀ p, H p = none → Q (.ref p) (upd H p (.tup (List.replicate n xs).flatten)))) := by
  intro pins s σ H x y v u Q I rx ry h
  obtain ⟨l, n, xs, rfl, rfl, hT, hne, n1, n2, hz, q1, q2⟩ := h
  by_cases e : n = 1
  · subst e
    exact op_rep1 pins s σ H _ _ v u Q I rx ry ⟨l, xs, rfl, rfl, hT, q1 rfl⟩
  · refine op_repT pins s σ H _ _ v u Q I rx ry ⟨l, _, xs, rfl, rfl, hT, hne, by omega, by omega, hz, fun p hp => ?_⟩
    rw [Int.toNat_natCast]
    exact q2 (by omega) p hp
end
end L2

set_option Elab.async false
set_option linter.all false
set_option maxRecDepth 100000
set_option maxHeartbeats 2000000
namespace L2
open PySem PySem.Spec PyProof.Rows
section
variable {X : Cx} {CX : CXT} {n : Nat} {C g : Addr} {sp : Sp} {E : XK}
/-- x == y, both of C, which has __eq__ -/
def rEqO (C : Addr) (sp : Sp) (E : XK) : R2 := fun x y H Q => ∃ a dx fs b dy gs, x = .ref a ∧ y = .ref b ∧ H a = some (.ins C dx fs) ∧ H b = some (.ins C dy gs) ∧ sp [.ref a, .ref b] H Q E
theorem op_eqO (hn : PySem.W.notFirst X.K C (.ref C) = true) (hs : PySem.W.findIn X.K (.ref C) (cmpInfo .Eq).2.1 = some (some (.ref g))) (hf : PySem.W.isFn X.K (.ref g) = true) (F : FnR X.prog X.w X.K X.mg X.base CX n g sp) (hr : Room n X.A) (hx : Passes CX X E) : OpR X (compareOp .Eq) (rEqO C sp E) := by
  intro pins s σ H x y v u Q I rx ry h
  obtain ⟨a, dx, fs, b, dy, gs, rfl, rfl, ha, hb, q⟩ := h
  cases (show v = Value.ref a from rx)
  cases (show u = Value.ref b from ry)
  obtain ⟨ox, od, J, hd⟩ := StX.insC_at I (.inr ⟨dx, fs, ha⟩)
  obtain ⟨oy, od', J', hd'⟩ := StX.insC_at I (.inr ⟨dy, gs, hb⟩)
  obtain ⟨m, hF⟩ := I.fr
  rw [show compareOp .Eq (Value.ref a) (Value.ref b) = richCompare .Eq (Value.ref a) (Value.ref b) from rfl]
  refine PySem.W.cmp_K (op := .Eq) (tb := .ref C) hr.units0 hF I.ok.mod.kin J J'.type hn hs hf ?_
  refine wpAny_mono (wpAny_call (run_fnR (us := [.ref a, .ref b]) (vs := [.ref a, .ref b]) F hr hx I (.cons rfl (.cons rfl .nil)) q)) (fun w s' z => ?_) fun _ _ x => x
  obtain ⟨z', H', I', rz, qz⟩ := z
  exact SlX.cmpback rz ⟨z', H', I', rz, qz⟩
/-- what x * y asks of x's class, which has __mul__, and of the types of y -/
structure MulO (K : PySem.W.Frag) (C g : Addr) : Prop where
  hc : PySem.W.selfFirst K C = true
  hs : PySem.W.findIn K (.ref C) (PySem.dunder (Operator.info .Mult).2) = some (some (.ref g))
  hf : PySem.W.isFn K (.ref g) = true
  hr : PySem.W.findIn K (.ref C) (dunderR (Operator.info .Mult).2) = some none
  ti : ∃ fo ro, PySem.W.findIn K (.type "int") (PySem.dunder (Operator.info .Mult).2) = some fo ∧ PySem.W.findIn K (.type "int") (dunderR (Operator.info .Mult).2) = some ro ∧ PySem.W.subIn K (.type "int") (.ref C) = some false
  tn : ∃ fo ro, PySem.W.findIn K (.type "NoneType") (PySem.dunder (Operator.info .Mult).2) = some fo ∧ PySem.W.findIn K (.type "NoneType") (dunderR (Operator.info .Mult).2) = some ro ∧ PySem.W.subIn K (.type "NoneType") (.ref C) = some false
  tb : ∃ fo ro, PySem.W.findIn K (.type "bool") (PySem.dunder (Operator.info .Mult).2) = some fo ∧ PySem.W.findIn K (.type "bool") (dunderR (Operator.info .Mult).2) = some ro ∧ PySem.W.subIn K (.type "bool") (.ref C) = some false
def rMulV (C : Addr) (sp : Sp) (E : XK) : R2 := fun x y H Q => ∃ a dx fs, x = .ref a ∧ ((∃ i, y = .int i) ∨ y = .non ∨ ∃ b, y = .bl b) ∧ H a = some (.ins C dx fs) ∧ sp [.ref a, y] H Q E
theorem op_mulV (W : MulO X.K C g) (F : FnR X.prog X.w X.K X.mg X.base CX n g sp) (hr : Room n X.A) (hx : Passes CX X E) : OpR X (binaryOp .Mult) (rMulV C sp E) := by
  intro pins s σ H x y v u Q I rx ry h
  obtain ⟨a, dx, fs, rfl, hy, ha, q⟩ := h
  cases (show v = Value.ref a from rx)
  obtain ⟨ox, od, J, hd⟩ := StX.insC_at I (.inr ⟨dx, fs, ha⟩)
  obtain ⟨m, hF⟩ := I.fr
  have fin : wpAny (model X.prog X.w) X.A (call (.ref g) [.ref a, u]) (PySem.W.CmpBack (EP X pins σ Q)) X.xe s := thn (wpAny_call (run_fnR (us := [.ref a, u]) (vs := [.ref a, y]) F hr hx I (.cons rfl (.cons ry .nil)) q)) fun w' s' hq => by
    obtain ⟨z, H', I', rz, qz⟩ := hq
    exact SlX.cmpback rz ⟨z, H', I', rz, qz⟩
  rcases hy with ⟨i, rfl⟩ | rfl | ⟨b, rfl⟩
  · obtain ⟨t, rfl⟩ := (show ∃ t, u = Value.int i t from ry)
    obtain ⟨fo, ro, h1, h2, h3⟩ := W.ti
    exact PySem.W.ksp_binT (op := .Mult) (T := "int") (rc := none) hF I.ok.mod.kin J rfl W.hc W.hs W.hf W.hr (.inl rfl) h1 h2 h3 fin
  · cases (show u = Value.none from ry)
    obtain ⟨fo, ro, h1, h2, h3⟩ := W.tn
    exact PySem.W.ksp_binT (op := .Mult) (T := "NoneType") (rc := none) hF I.ok.mod.kin J rfl W.hc W.hs W.hf W.hr (.inl rfl) h1 h2 h3 fin
  · cases (show u = Value.bool b from ry)
    obtain ⟨fo, ro, h1, h2, h3⟩ := W.tb
    exact PySem.W.ksp_binT (op := .Mult) (T := "bool") (rc := none) hF I.ok.mod.kin J rfl W.hc W.hs W.hf W.hr (.inl rfl) h1 h2 h3 fin
/-- x == a text, x of C, which has __eq__ -/
def rEqOS (C : Addr) (sp : Sp) (E : XK) : R2 := fun x y H Q => ∃ a dx fs z, x = .ref a ∧ y = .str z ∧ H a = some (.ins C dx fs) ∧ sp [.ref a, .str z] H Q E
theorem op_eqOS (hn : PySem.W.notFirst X.K C (.type "str") = true) (hs : PySem.W.findIn X.K (.ref C) (cmpInfo .Eq).2.1 = some (some (.ref g))) (hf : PySem.W.isFn X.K (.ref g) = true) (F : FnR X.prog X.w X.K X.mg X.base CX n g sp) (hr : Room n X.A) (hx : Passes CX X E) : OpR X (compareOp .Eq) (rEqOS C sp E) := by
  intro pins s σ H x y v u Q I rx ry h
  obtain ⟨a, dx, fs, z, rfl, rfl, ha, q⟩ := h
  cases (show v = Value.ref a from rx)
  obtain ⟨t, rfl⟩ := (show ∃ t, u = Value.str z t from ry)
  obtain ⟨ox, od, J, hd⟩ := StX.insC_at I (.inr ⟨dx, fs, ha⟩)
  obtain ⟨m, hF⟩ := I.fr
  rw [show compareOp .Eq (Value.ref a) (Value.str z t) = richCompare .Eq (Value.ref a) (Value.str z t) from rfl]
  refine PySem.W.cmp_K (op := .Eq) (tb := .type "str") hr.units0 hF I.ok.mod.kin J PySem.W.Looks.now hn hs hf ?_
  refine wpAny_mono (wpAny_call (run_fnR (us := [.ref a, .str z t]) (vs := [.ref a, .str z]) F hr hx I (.cons rfl (.cons ⟨t, rfl⟩ .nil)) q)) (fun w s' z => ?_) fun _ _ x => x
  obtain ⟨z', H', I', rz, qz⟩ := z
  exact SlX.cmpback rz ⟨z', H', I', rz, qz⟩
end
end L2
namespace Sl
open OwnR
section
variable {N : Type} [DecidableEq N]
def kindsL (secs : List (Bool × Nat)) : List Bool := secs.flatMap fun s => List.replicate s.2 s.1
end
end Sl
namespace Sl
open PySem PySem.Spec L2 OwnR LamX
theorem units_kinds (secs : List Sec) : unitsL secs = (kindsL secs).map letterC := by
  unfold unitsL kindsL
  rw [List.map_flatMap]
  congr 1
  funext s
  rw [List.map_replicate]
theorem letterC_inj {a b : Bool} (h : letterC a = letterC b) : a = b := by
  cases a <;> cases b <;> first | rfl | (exfalso; revert h; decide)
theorem letters_inj : ∀ {a b : List Bool}, a.map letterC = b.map letterC → a = b
  | [], [], _ => rfl
  | [], y :: b, h => by simp at h
  | x :: a, [], h => by simp at h
  | x :: a, y :: b, h => by
    rw [List.map_cons, List.map_cons] at h
    injection h with h1 h2
    rw [letterC_inj h1, letters_inj h2]
theorem str_ext {i j : Str} (h : i.cps.toList = j.cps.toList) : i = j := by
  cases i with
  | mk a => cases j with
    | mk b => exact congrArg Str.mk (Array.toList_inj.mp h)
theorem kinds_len (secs : List Sec) : (kindsL secs).length = (unitsL secs).length := by rw [units_kinds, List.length_map]
end Sl
namespace Sl
open PySem PySem.Spec L2 OwnR LamX
section
variable {P : Program} {w : World} {K : PySem.W.Frag} {mg : Str → Option Value} {base : Heap}
theorem scRUnits : FnScope ["self"] ["self"] (defScope sRUnits) := ⟨rfl, rfl, rfl, by decide +kernel, rfl, by decide +kernel, by decide +kernel⟩
theorem ok_rUnits {f C lp kp : Addr} {fd : FuncData} (F : Fun K "units" "Road.units" sRUnits f fd) (R : RoadT K w mg C lp kp) : FnOk P w K mg base CX0 1 f fd ["self"] (getSp C "_units") := by
  obtain ⟨oc, od, kV, doc, pm, an, cdv, ct, osl, rfl, lk, hcd⟩ := F.ex
  exact fn_getter lk hcd scRUnits rfl rfl R.cl R.nU
theorem road_len {secs : List Sec} (S : SecsOk secs) : (unitsL secs).length ≤ 1188 := by
  rw [unitsL_len]
  have h1 := sum_le fun s hs => (S.len s hs).2
  have h2 := S.few
  omega
def spRGet (C : Addr) : Sp := fun vs H Q _ => ∃ (p : Addr) (secs : List Sec) (at_ : Nat) (b : Bool), vs = [.ref p, .int (at_ : Nat)] ∧ RoadAt C H p secs ∧ SecsOk secs ∧ (kindsL secs)[at_]? = some b ∧ Q (.str (kindS b)) H
theorem scRGet : FnScope ["self", "at"] ["self", "at"] (defScope sRGet) := ⟨rfl, rfl, rfl, by decide +kernel, rfl, by decide +kernel, by decide +kernel⟩
theorem ok_rGet {f fB C lp kp : Addr} {fd dB : FuncData} (F : Fun K "__getitem__" "Road.__getitem__" sRGet f fd) (M : Mg mg) (R : RoadT K w mg C lp kp) (BB : Fb K mg "is_number" sIsNumber ["value", "least", "most"] fB dB) (GB : FnOk P w K mg base CX0 1 fB dB ["value", "least", "most"] spIsNumber) :
    FnOk P w K mg base CX0 2 f fd ["self", "at"] (spRGet C) := by
  refine F.ok scRGet (fun vs H Q E h => ?_) (fun cdv A outer s H vs Q E hr h => ?_)
  · obtain ⟨p, secs, a, b, rfl, _⟩ := h
    rfl
  · obtain ⟨p, secs, a, b, rfl, ⟨dx, t, u, hp, hs, hu⟩, S, hb, k⟩ := h
    refine ⟨_, pss_cons (ps_if (pt_not (pt_val (pe_call GB hr (by rfl) BB.at_ BB.fn.kp BB.bd .nil pass0 (pa_cons (pv 1) (pa_cons pe_int (pa_cons (pe_op op_sub (pe_callB call_len_str (by rfl) M.len boot_len (pa_cons (pe_fld (pv 0) rfl) pa_nil)) pe_int) pa_nil)))))) (pss_one ps_never) pss_nil)
      (pss_one (ps_ret (pe_ix (r := rIxD K w) ix_kdict (pe_glob (v := .ref kp) (by rfl) R.mgK rfl) (pe_ix ix_str (pe_fld (pv 0) rfl) (pv 1) (fun _ _ => rfl)) (fun _ _ => rfl)))), ?_⟩
    have el : u.length = (kindsL secs).length := by rw [str_len_toList, hu, kinds_len]
    have ul := road_len S
    rw [← kinds_len] at ul
    have hz : u.length ≤ sizeLine := by have := line_big; omega
    have al := (List.getElem?_eq_some_iff.mp hb).1
    refine ⟨_, rfl, _, rfl, p, C, dx, _, _, rfl, hp, R.cl, R.nU, rf_units _ _, u, rfl, hz, _, _, rfl, rfl, (a : Nat), 0, _, rfl, true, ?_, iteF ?_⟩
    · rw [decide_eq_true (by omega : (0 : Int) ≤ (a : Int)), decide_eq_true (by omega : (a : Int) ≤ ((u.length : Nat) : Int) - 1)]
      rfl
    have hat : atI u.cps.toList ((a : Nat) : Int) = some (letterC b) := atI_nat (by rw [hu, units_kinds, List.getElem?_map, hb]; rfl)
    have hk : KDct K w kp (letterS b) (.str (kindS b)) := by
      cases b
      · exact R.kN
      · exact R.kW
    refine ⟨_, rfl, p, C, dx, _, _, rfl, hp, R.cl, R.nU, rf_units _ _, _, rfl, u, _, _, rfl, rfl, hz, hat, ?_⟩
    exact ⟨kp, _, _, rfl, by rw [letterS_eq], hk, k⟩
def spRHas (C : Addr) : Sp := fun vs H Q _ => ∃ (p : Addr) (secs : List Sec) (z : Str), vs = [.ref p, .str z] ∧ RoadAt C H p secs ∧ SecsOk secs ∧ ∀ H', Same H H' → Q (.bl (decide (z ∈ secs.map fun s => kindS s.1))) H'
def nRHas : List Str := ["self", "x", "kind", "length"]
theorem scRHas : FnScope nRHas ["self", "x"] (defScope sRHas) := ⟨rfl, rfl, rfl, by decide +kernel, rfl, by decide +kernel, by decide +kernel⟩
theorem ok_rHas {f C lp kp : Addr} {fd : FuncData} (F : Fun K "__contains__" "Road.__contains__" sRHas f fd) (R : RoadT K w mg C lp kp) : FnOk P w K mg base CX0 1 f fd ["self", "x"] (spRHas C) := by
  refine F.ok scRHas (fun vs H Q E h => ?_) (fun cdv A outer s H vs Q E hr h => ?_)
  · obtain ⟨p, secs, z, rfl, _⟩ := h
    rfl
  · obtain ⟨p, secs, z, rfl, ⟨dx, t, u, hp, ⟨ts, ht, hlen, hsec⟩, hu⟩, S, k⟩ := h
    have nd := scRHas.nd
    refine ⟨_, pss_one (ps_ret (pe_cmpR op_in_seq (pv 1) (pe_lc (own := [("kind", 2), ("length", 3)]) (g := gTup K 2 (gCons (gName 2) (gCons (gName 3) gNil))) (tt := tYes) (te := tVar 2) (by rfl) nd (pi_tup (pe_fld (pv 0) rfl)) (blkOk_by (N := nRHas) (sc := defScope sRHas) (by decide +kernel))
        (fun _ _ _ _ _ => pg_tup rfl (pgs_cons (pg_name (i := 2) nd rfl (Or.inl rfl)) (pgs_cons (pg_name (i := 3) nd rfl (Or.inl rfl)) pgs_nil))) (fun _ _ _ _ _ => pts_nil) (fun _ _ _ _ _ => pv 2)) (by rfl))), ?_⟩
    have hts : (ts.map V.ref).length = secs.length := by rw [List.length_map, hlen]
    refine ⟨_, rfl, _, rfl, p, C, dx, _, _, rfl, hp, R.cl, R.nS, rf_sections _ _, t, rfl, ⟨_, SqT.of ht⟩, fun D hD => ?_⟩
    refine lc_it walk_tup (fun i H1 => Same H H1 ∧ H1 D = some (.lst (((secs.take i).map fun s => kindS s.1).map V.str))) ⟨sameNew hD _, upd_same⟩ (fun i H1 _ ⟨k1, _⟩ => SqT.of (k1 _ _ ht)) ?_ ?_
    · rintro i y H1 H2 hi ⟨k1, hD1⟩ ⟨e, hy⟩
      subst e
      have hic : i < secs.length := by rw [hts] at hi; exact hi
      obtain ⟨tt, htt, rfl⟩ : ∃ t, ts[i]? = some t ∧ y = V.ref t := by
        rw [List.getElem?_map] at hy
        obtain ⟨t, z1, z2⟩ := Option.map_eq_some_iff.mp hy
        exact ⟨t, z1, z2.symm⟩
      have hc : secs[i]? = some secs[i] := List.getElem?_eq_getElem hic
      have hct := k1 _ _ (hsec i tt _ htt hc)
      refine ⟨tt, _, rfl, SqT.of hct, rfl, _, _, rfl, _, _, rfl, rfl, rfl, yes_of ?_⟩
      refine ⟨_, rfl, _, hD1, by rw [List.length_map, List.length_map, List.length_take]; have := S.few; exact small1000 (by omega), fun b o e => by rw [upd_ne (ne_of_none e hD)]; exact k1 _ _ e, ?_⟩
      rw [upd_same, tk1 hc, List.map_append, List.map_append]
      rfl
    · rintro H1 ⟨k1, hD1⟩
      rw [hts, List.take_length] at hD1
      refine ⟨D, _, rfl, .inl (SqL.of hD1), rfl, flat_strs _, ?_⟩
      have e : inV (V.str z) ((secs.map fun s => kindS s.1).map V.str) = decide (z ∈ secs.map fun s => kindS s.1) := by rw [inV_str]
      show Q (.bl (inV (V.str z) ((secs.map fun s => kindS s.1).map V.str))) H1
      rw [e]
      exact k H1 k1
def nRMul : List Str := ["self", "other", "sections"]
theorem scRMul : FnScope nRMul ["self", "other"] (defScope sRMul) := ⟨rfl, rfl, rfl, by decide +kernel, rfl, by decide +kernel, by decide +kernel⟩
end
end Sl
namespace Sl
open PySem PySem.Spec L2 OwnR LamX
section
variable {P : Program} {w : World} {K : PySem.W.Frag} {mg : Str → Option Value} {base : Heap}
def spREq (C : Addr) : Sp := fun vs H Q _ => ∃ (a b : Addr) (s1 s2 : List Sec), vs = [.ref a, .ref b] ∧ RoadAt C H a s1 ∧ RoadAt C H b s2 ∧ Q (.bl (decide (kindsL s1 = kindsL s2))) H
theorem scREq : FnScope ["self", "other"] ["self", "other"] (defScope sREq) := ⟨rfl, rfl, rfl, by decide +kernel, rfl, by decide +kernel, by decide +kernel⟩
theorem ok_rEq {f C lp kp : Addr} {fd : FuncData} (F : Fun K "__eq__" "Road.__eq__" sREq f fd) (M : Mg mg) (R : RoadT K w mg C lp kp) (IR : IsRoad K C) : FnOk P w K mg base CX0 1 f fd ["self", "other"] (spREq C) := by
  refine F.ok scREq (fun vs H Q E h => ?_) (fun cdv A outer s H vs Q E hr h => ?_)
  · obtain ⟨a, b, s1, s2, rfl, _⟩ := h
    rfl
  · obtain ⟨a, b, s1, s2, rfl, ⟨ax, at_, au, a1, a2, a5⟩, ⟨bx, bt, bu, b1, b2, b5⟩, k⟩ := h
    refine ⟨_, pss_one (ps_ret (pe_and (pe_callB call_isi (by rfl) M.isinstance boot_isinstance (pa_cons (pv 1) (pa_cons (pe_glob (v := .ref C) (by rfl) R.mgC rfl) pa_nil)))
      (pe_one (pe_cmpR op_eq (pe_fld (pv 0) rfl) (pe_fld (pv 1) rfl) (nomark _))))), ?_⟩
    refine ⟨_, rfl, _, _, _, _, true, rfl, .own _, .base (.ins b1 R.cl IR.ha IR.hn IR.htk IR.hm), IR.kit, true, rfl, iteT ?_⟩
    refine ⟨_, rfl, a, C, ax, _, _, rfl, a1, R.cl, R.nU, rf_units _ _, _, rfl, b, C, bx, _, _, rfl, b1, R.cl, R.nU, rf_units _ _, rfl, ?_⟩
    have e : decide (V.str au = V.str bu) = decide (kindsL s1 = kindsL s2) := by
      rw [decide_eq_decide]
      refine ⟨fun z => letters_inj ?_, fun z => congrArg V.str (str_ext ?_)⟩
      · rw [← units_kinds, ← units_kinds, ← a5, ← b5, V.str.inj z]
      · rw [a5, b5, units_kinds, units_kinds, z]
    rw [e]
    exact k
end
end Sl
namespace Sl
open PySem PySem.Spec L2 OwnR LamX
section
variable {P : Program} {w : World} {K : PySem.W.Frag} {mg : Str → Option Value} {base : Heap}
def spLetters : Sp := fun vs H Q _ => ∃ (l : Addr) (secs : List Sec), vs = [.ref l] ∧ RunsAt H l secs ∧ SecsOk secs ∧ ∀ H' u, Same H H' → u.cps.toList = unitsL secs → Q (.str u) H'
def nLetters : List Str := ["_law_parts_here", "_law_kind", "_law_length"]
theorem scLetters : FnScope nLetters ["_law_parts_here"] (defScope sLetters) := ⟨rfl, rfl, rfl, by decide +kernel, rfl, by decide +kernel, by decide +kernel⟩
theorem kind_first (b : Bool) : atI (kindS b).cps.toList 0 = some (letterC b) := by cases b <;> decide +kernel
theorem ok_letters {f : Addr} {fd : FuncData} (F : Fun K "_law_letters" "_law_letters" sLetters f fd) : FnOk P w K mg base CX0 1 f fd ["_law_parts_here"] spLetters := by
  refine F.ok scLetters (fun vs H Q E h => ?_) (fun cdv A outer s H vs Q E hr h => ?_)
  · obtain ⟨l, secs, rfl, _⟩ := h
    rfl
  · obtain ⟨l, secs, rfl, ⟨ts, ht, hlen, hsec⟩, S, k⟩ := h
    have nd := scLetters.nd
    refine ⟨_, pss_one (ps_ret (pe_join pe_str (pe_lc (own := [("_law_kind", 1), ("_law_length", 2)]) (g := gTup K 2 (gCons (gName 1) (gCons (gName 2) gNil))) (tt := tYes) (te := tOp rRepS (tOp rIxS (tVar 1) (tC (.int 0))) (tVar 2)) (by rfl) nd (pi_list (pv 0)) (blkOk_by (N := nLetters) (sc := defScope sLetters) (by decide +kernel))
        (fun _ _ _ _ _ => pg_tup rfl (pgs_cons (pg_name (i := 1) nd rfl (Or.inl rfl)) (pgs_cons (pg_name (i := 2) nd rfl (Or.inl rfl)) pgs_nil))) (fun _ _ _ _ _ => pts_nil) (fun _ _ _ _ _ => pe_op op_repS (pe_ix ix_str (pv 1) pe_int (fun _ _ => rfl)) (pv 2))))), ?_⟩
    have hts : (ts.map V.ref).length = secs.length := by rw [List.length_map, hlen]
    refine ⟨⟨_, rfl⟩, _, rfl, l, rfl, ⟨_, SqL.of ht⟩, fun D hD => ?_⟩
    refine lc_it walk_list (fun i H2 => Same H H2 ∧ ∃ ys : List Str, H2 D = some (.lst (ys.map V.str)) ∧ ys.map (fun y => y.cps.toList) = (secs.take i).map fun s => List.replicate s.2 (letterC s.1))
      ⟨sameNew hD _, [], upd_same, rfl⟩ (fun i H2 _ ⟨k2, _⟩ => SqL.of (k2 _ _ ht)) ?_ ?_
    · rintro i y H2 H3 hi ⟨k2, ys, hD2, eys⟩ ⟨e, hy⟩
      subst e
      have hic : i < secs.length := by rw [hts] at hi; exact hi
      obtain ⟨tt, htt, rfl⟩ : ∃ t, ts[i]? = some t ∧ y = V.ref t := by
        rw [List.getElem?_map] at hy
        obtain ⟨t, z1, z2⟩ := Option.map_eq_some_iff.mp hy
        exact ⟨t, z1, z2.symm⟩
      have hc : secs[i]? = some secs[i] := List.getElem?_eq_getElem hic
      have hct := k2 _ _ (hsec i tt _ htt hc)
      have c0 := S.len _ (List.getElem_mem hic)
      have hz : (kindS secs[i].1).length ≤ sizeLine := by
        have : (kindS secs[i].1).length ≤ 6 := by cases secs[i].1 <;> decide +kernel
        have := line_big
        omega
      refine ⟨tt, _, rfl, SqT.of hct, rfl, _, _, rfl, _, _, rfl, rfl, rfl, yes_of ?_⟩
      have hl1 : (⟨#[letterC secs[i].1]⟩ : Str).length = 1 := rfl
      refine ⟨_, rfl, _, 0, _, rfl, rfl, hz, kind_first _, _, rfl, ⟨#[letterC secs[i].1]⟩, secs[i].2, rfl, rfl, c0.1, by omega, by rw [hl1]; omega, fun u hu => ?_⟩
      have ly : ys.length = i := by
        have := congrArg List.length eys
        rw [List.length_map, List.length_map, List.length_take] at this
        omega
      refine ⟨_, hD2, by rw [List.length_map, ly]; have := S.few; exact small1000 (by omega), fun b o e => by rw [upd_ne (ne_of_none e hD)]; exact k2 b o e, ys ++ [u], by rw [upd_same, List.map_append]; rfl, ?_⟩
      rw [List.map_append, eys, tk1 hc, List.map_append]
      simp [hu]
    · rintro H2 ⟨k2, ys, hD2, eys⟩
      have e9 : secs.take (ts.map V.ref).length = secs := by rw [hts, List.take_length]
      rw [e9] at eys
      have eU : (Txt.join ("" : Str) ys).cps.toList = unitsL secs := by
        rw [join_empty, eys]
        simp [unitsL, List.flatMap]
      have hsum : (ys.map (·.length)).sum + ys.length * ("" : Str).length ≤ 16777216 := by
        have e0 : ("" : Str).length = 0 := by decide +kernel
        have e1 : (ys.map (·.length)).sum = (unitsL secs).length := by
          rw [← eU, join_empty, List.length_flatten, List.map_map]
          congr 1
        rw [e0, e1, unitsL_len]
        have := sum_le fun s hs => (S.len s hs).2
        have := S.few
        omega
      exact ⟨("" : Str), D, ys, rfl, rfl, .inl (SqL.of hD2), hsum, k H2 _ k2 eU⟩
end
end Sl
namespace Sl
open PySem PySem.Spec L2 OwnR LamX
theorem make_all {C x dx : Addr} {H : Hp} {ts : List Addr} {secs : List Sec} {E : XK} {G : Hp → Prop} (h2 : ts.length = secs.length) (h3 : ∀ (i : Nat) (t : Addr) (s : Sec), ts[i]? = some t → secs[i]? = some s → H t = some (.tup (secV s))) (S : SecsOk secs) (hx : H x = none) (hdx : H dx = none) (ne : dx ≠ x)
    (k : ∀ H', Same H H' → RoadAt C H' x secs → G H') : spRInit C (.ref x :: ts.map V.ref) (upd (upd H dx (.own x)) x (.ins C dx [])) (fun v H2 => v = .non ∧ G H2) E := by
  have few := S.few
  refine ⟨[.ref x], ts.map V.ref, rfl, rfl, by rw [List.length_map, h2]; exact Nat.le_of_lt (small1000 (by omega)), fun p hp => ?_⟩
  have hxp : x ≠ p := fun z => by
    rw [← z, upd_same] at hp
    cases hp
  have old : ∀ b o, H b = some o → (upd (upd (upd H dx (.own x)) x (.ins C dx [])) p (.tup (ts.map V.ref))) b = some o := fun b o e => by
    have e2 : (upd (upd H dx (.own x)) x (.ins C dx [])) b = some o := by
      rw [upd_ne (ne_of_none e hx), upd_ne (ne_of_none e hdx)]
      exact e
    rw [upd_ne (ne_of_none e2 hp)]
    exact e2
  refine ⟨x, dx, p, secs, rfl, by rw [upd_ne hxp, upd_same], ⟨ts, by rw [upd_same], h2, fun i a s' e1 e2 => old _ _ (h3 i a s' e1 e2)⟩, S, fun H2 us kp hX hus => ⟨rfl, ?_⟩⟩
  exact k H2 (fun b o e => kp b o (old _ _ e) (ne_of_none e hx)) ⟨dx, p, us, hX, ⟨ts, kp _ _ upd_same hxp.symm, h2, fun i a s' e1 e2 => kp _ _ (old _ _ (h3 i a s' e1 e2)) (ne_of_none (h3 i a s' e1 e2) hx)⟩, hus⟩
section
variable {P : Program} {w : World} {K : PySem.W.Frag} {mg : Str → Option Value} {base : Heap}
end
section
variable {P : Program} {w : World} {K : PySem.W.Frag} {mg : Str → Option Value} {base : Heap}
end
end Sl

set_option Elab.async false
set_option linter.all false
set_option maxRecDepth 100000
set_option maxHeartbeats 2000000
namespace Sl
open PySem PySem.Spec L2 OwnR LamX
/-- a list, n times -/
def repS {α : Type} (n : Nat) (l : List α) : List α := (List.replicate n l).flatten
theorem repS_succ {α : Type} (n : Nat) (l : List α) : repS (n + 1) l = l ++ repS n l := by unfold repS; rw [List.replicate_succ, List.flatten_cons]
theorem repS_len {α : Type} (n : Nat) (l : List α) : (repS n l).length = n * l.length := by
  induction n with
  | zero => simp [repS]
  | succ n ih => rw [repS_succ, List.length_append, ih, Nat.add_mul, Nat.one_mul, Nat.add_comm]
theorem repS_map {α β : Type} (f : α → β) (n : Nat) (l : List α) : (repS n l).map f = repS n (l.map f) := by
  induction n with
  | zero => rfl
  | succ n ih => rw [repS_succ, repS_succ, List.map_append, ih]
theorem repS_mem {α : Type} {n : Nat} {l : List α} {x : α} (h : x ∈ repS n l) : x ∈ l := by
  induction n with
  | zero => simp [repS] at h
  | succ n ih =>
    rw [repS_succ] at h
    exact (List.mem_append.mp h).elim id ih
theorem repS_two {α β : Type} {R : α → β → Prop} {l : List α} {m : List β} (hl : l.length = m.length) (h : ∀ (i : Nat) x y, l[i]? = some x → m[i]? = some y → R x y) : ∀ (n i : Nat) x y, (repS n l)[i]? = some x → (repS n m)[i]? = some y → R x y
  | 0, i, x, y, e, _ => by simp [repS] at e
  | n + 1, i, x, y, e1, e2 => by
    rw [repS_succ] at e1 e2
    rcases Nat.lt_or_ge i l.length with lt | ge
    · rw [List.getElem?_append_left lt] at e1
      rw [List.getElem?_append_left (by omega)] at e2
      exact h i x y e1 e2
    · rw [List.getElem?_append_right ge] at e1
      rw [List.getElem?_append_right (by omega), ← hl] at e2
      exact repS_two hl h n _ x y e1 e2
/-- Road(..) of more than twelve sections -/
theorem make_many {C CI x dx : Addr} {H : Hp} {ts : List Addr} {secs : List Sec} {E : XK} {Q : VK} (h2 : ts.length = secs.length) (h3 : ∀ (i : Nat) (t : Addr) (s : Sec), ts[i]? = some t → secs[i]? = some s → H t = some (.tup (secV s))) (hs : ∀ s ∈ secs, 1 ≤ s.2 ∧ s.2 ≤ 99) (hl : 12 < secs.length) (hl2 : secs.length ≤ 1000) (hx : H x = none) (hdx : H dx = none) (ne : dx ≠ x)
    (k : FldE CI "index" (.int 12) H E) : spRInitU C CI (.ref x :: ts.map V.ref) (upd (upd H dx (.own x)) x (.ins C dx [])) Q E := by
  refine ⟨[.ref x], ts.map V.ref, rfl, rfl, by rw [List.length_map, h2]; exact Nat.le_of_lt (small1000 (by omega)), fun p hp => ?_⟩
  have old : ∀ b o, H b = some o → (upd (upd (upd H dx (.own x)) x (.ins C dx [])) p (.tup (ts.map V.ref))) b = some o := fun b o e => by
    have e2 : (upd (upd H dx (.own x)) x (.ins C dx [])) b = some o := by
      rw [upd_ne (ne_of_none e hx), upd_ne (ne_of_none e hdx)]
      exact e
    rw [upd_ne (ne_of_none e2 hp)]
    exact e2
  refine ⟨x, dx, p, ts.map V.ref, 12, rfl, upd_same, by rw [List.length_map]; omega, by rw [List.length_map]; omega, fun j hj => ?_, Nat.le_refl _, .inl rfl, fun H' d fs s => k H' d fs fun b o e => s _ _ (old b o e)⟩
  obtain ⟨t, ht⟩ : ∃ t, ts[j]? = some t := ⟨_, List.getElem?_eq_getElem (by omega)⟩
  obtain ⟨sc, hsc⟩ : ∃ s, secs[j]? = some s := ⟨_, List.getElem?_eq_getElem (by omega)⟩
  have := hs sc (List.mem_of_getElem? hsc)
  exact ⟨t, sc, map_at V.ref ht, old _ _ (h3 j t sc ht hsc), this.1, this.2⟩
section
variable {P : Program} {w : World} {K : PySem.W.Frag} {mg : Str → Option Value} {base : Heap}
def spRInitX (C CI : Addr) : Sp := fun vs H Q E => spRInit C vs H Q E ∨ spRInitU C CI vs H Q E
/-! ### road[..], of what is no unit -/
def spRGetU (C CN : Addr) : Sp := fun vs H Q E => ∃ (p : Addr) (secs : List Sec) (v : V), vs = [.ref p, v] ∧ RoadAt C H p secs ∧ SecsOk secs ∧ Plain v ∧ numB v 0 (((unitsL secs).length : Int) - 1) = false ∧ E (.ref CN) none H
theorem ok_rGetU {f fB C CN lp kp : Addr} {fd dB : FuncData} (F : Fun K "__getitem__" "Road.__getitem__" sRGet f fd) (M : Mg mg) (R : RoadT K w mg C lp kp) (EN : ErrT K mg "InvalidNumber" CN) (BB : Fb K mg "is_number" sIsNumber ["value", "least", "most"] fB dB) (GB : FnOk P w K mg base CX0 1 fB dB ["value", "least", "most"] spIsNumV) :
    FnOk P w K mg base (L2.CX P w) 2 f fd ["self", "at"] (spRGetU C CN) := by
  refine F.okX scRGet (fun vs H Q E h => ?_) (fun cdv A outer s H vs Q E hr h => ?_)
  · obtain ⟨p, secs, v, rfl, _⟩ := h
    rfl
  · obtain ⟨p, secs, v, rfl, ⟨dx, t, u, hp, hs, hu⟩, S, hv, hb, k⟩ := h
    refine ⟨_, pss_cons (ps_if (pt_not (pt_val (pe_call GB hr (by rfl) BB.at_ BB.fn.kp BB.bd .nil pass0 (pa_cons (pv 1) (pa_cons pe_int (pa_cons (pe_op op_sub (pe_callB call_len_str (by rfl) M.len boot_len (pa_cons (pe_fld (pv 0) rfl) pa_nil)) pe_int) pa_nil)))))) (pss_one (ps_raise rfl (takes_of rfl rfl rfl rfl) (pmk_errT EN (by rfl)))) pss_nil)
      pss_never, ?_⟩
    have el : u.length = (unitsL secs).length := by rw [str_len_toList, hu]
    have ul := road_len S
    have hz : u.length ≤ sizeLine := by have := line_big; omega
    refine ⟨_, rfl, _, rfl, p, C, dx, _, _, rfl, hp, R.cl, R.nU, rf_units _ _, u, rfl, hz, _, _, rfl, rfl, v, 0, _, rfl, hv, false, ?_, iteT k⟩
    rw [el, hb]
/-! ### road * .. -/
def spRMulX (C CN CI : Addr) : Sp := fun vs H Q E => ∃ (a : Addr) (secs : List Sec) (v : V), vs = [.ref a, v] ∧ RoadAt C H a secs ∧ SecsOk secs ∧ Plain v ∧
  ((numB v 1 12 = false ∧ E (.ref CN) none H) ∨ ∃ n : Nat, v = .int ((n : Nat) : Int) ∧ 1 ≤ n ∧ n ≤ 12 ∧ ((12 < n * secs.length ∧ FldE CI "index" (.int 12) H E) ∨ (n * secs.length ≤ 12 ∧ ∀ H' p, Same H H' → H p = none → RoadAt C H' p (repS n secs) → Q (.ref p) H')))
theorem ok_rMulX {f fI fB C CN CI lp kp : Addr} {fd dB : FuncData} (F : Fun K "__mul__" "Road.__mul__" sRMul f fd) (M : Mg mg) (R : RoadT K w mg C lp kp) (MK : Mk K C fI) (M9 : ∃ t, mg "MOST_TIMES" = some (.int 12 t)) (EN : ErrT K mg "InvalidNumber" CN)
    (GI : FnR P w K mg base (L2.CX P w) 4 fI (spRInitX C CI)) (BB : Fb K mg "is_number" sIsNumber ["value", "least", "most"] fB dB) (GB : FnOk P w K mg base CX0 1 fB dB ["value", "least", "most"] spIsNumV) : FnOk P w K mg base (L2.CX P w) 6 f fd ["self", "other"] (spRMulX C CN CI) := by
  refine F.okX scRMul (fun vs H Q E h => ?_) (fun cdv A outer s H vs Q E hr h => ?_)
  · obtain ⟨a, secs, v, rfl, _⟩ := h
    rfl
  · obtain ⟨a, secs, v, rfl, ⟨ax, at_, au, a1, ⟨ta, a2, a3, a4⟩, a5⟩, S, hv, h⟩ := h
    have nd := scRMul.nd
    obtain ⟨t9, M9⟩ := M9
    have hr1 : Room 1 (A.deeper (PyProof.Rows.envOfC "Road.__mul__" (defScope sRMul) s.heap.objs.size f cdv)) := hr.mono (by decide)
    have hr5 : Room 5 (A.deeper (PyProof.Rows.envOfC "Road.__mul__" (defScope sRMul) s.heap.objs.size f cdv)) := hr.mono (by decide)
    refine ⟨_, pss_cons (ps_if (pt_not (pt_val (pe_call GB hr1 (by rfl) BB.at_ BB.fn.kp BB.bd .nil pass0 (pa_cons (pv 1) (pa_cons pe_int (pa_cons (pe_glob (v := .int 12) (by rfl) M9 ⟨_, rfl⟩) pa_nil)))))) (pss_one (ps_raise rfl (takes_of rfl rfl rfl rfl) (pmk_errT EN (by rfl)))) pss_nil)
      (pss_cons (ps_set (i := 2) nd rfl (.inl rfl) (pe_op op_repN (pe_fld (pv 0) rfl) (pv 1)))
      (pss_one (ps_ret (pe_makeGS MK GI hr5 (passes_call (takes_of rfl rfl rfl rfl) fun _ _ _ _ h => h) (by rfl) R.mgC (pv 2))))), ?_⟩
    refine ⟨_, rfl, v, 1, 12, rfl, hv, ?_⟩
    rcases h with ⟨hb, k⟩ | ⟨n, rfl, n1, n2, h⟩
    · rw [hb]
      exact ⟨false, rfl, iteT k⟩
    rw [show numB (.int ((n : Nat) : Int)) 1 12 = true by show (decide ((1 : Int) ≤ (n : Int)) && decide ((n : Int) ≤ 12)) = true; rw [decide_eq_true (by omega : (1 : Int) ≤ (n : Int)), decide_eq_true (by omega : (n : Int) ≤ 12)]; rfl]
    refine ⟨true, rfl, iteF ?_⟩
    have la : (ta.map V.ref).length = secs.length := by rw [List.length_map, a3]
    have few := S.few
    have hne : ta.map V.ref ≠ [] := fun z => by
      have := congrArg List.length z
      rw [la] at this
      have e := List.length_eq_zero_iff.mp this
      exact S.ne (by rw [e])
    have hnl : n * secs.length ≤ 12 * 12 := Nat.mul_le_mul n2 few
    -- with the new tuple
    have fin : ∀ (H1 : Hp) (q : Addr), Same H H1 → H1 q = some (.tup ((repS n ta).map V.ref)) → tRet (tMakeLS K C (spRInitX C CI) E (tC (.ref C)) (tVar 2)) { nx := fun _ H' => Q .non H', rt := Q } [some (.ref a), some (.int ((n : Nat) : Int)), some (.ref q)] H1 := fun H1 q s1 hq => by
      refine ⟨rfl, _, rfl, q, _, rfl, .inl (SqT.of hq), fun x dx hx hdx ne => ?_⟩
      have e2 : (repS n ta).length = (repS n secs).length := by rw [repS_len, repS_len, a3]
      have e3 : ∀ (i : Nat) (t : Addr) (s : Sec), (repS n ta)[i]? = some t → (repS n secs)[i]? = some s → H1 t = some (.tup (secV s)) := fun i t s z1 z2 => s1 _ _ (repS_two (R := fun t s => H t = some (.tup (secV s))) a3 (fun i x y => a4 i x y) n i t s z1 z2)
      rcases h with ⟨big, k⟩ | ⟨sm, k⟩
      · exact .inr (make_many e2 e3 (fun s hs => S.len s (repS_mem hs)) (by rw [repS_len]; exact big) (by rw [repS_len]; omega) hx hdx ne fun H' d fs s => k H' d fs (s1.trans s))
      · have SR : SecsOk (repS n secs) := ⟨fun z => by
          have := congrArg List.length z
          rw [repS_len, List.length_nil] at this
          rcases Nat.mul_eq_zero.mp this with h | h
          · omega
          · exact S.ne (List.length_eq_zero_iff.mp h), by rw [repS_len]; exact sm, fun s hs => S.len s (repS_mem hs)⟩
        refine .inl (make_all e2 e3 SR hx hdx ne fun H2 s2 rd => k H2 x (s1.trans s2) ?_ rd)
        cases q' : H x with
        | none => rfl
        | some o =>
          rw [s1 _ _ q'] at hx
          cases hx
    refine ⟨_, rfl, a, C, ax, _, _, rfl, a1, R.cl, R.nS, rf_sections _ _, _, rfl, at_, n, _, rfl, rfl, SqT.of a2, hne, n1, by omega, by rw [la]; omega, fun e1 => ?_, fun e2 q hq => ?_⟩
    · subst e1
      refine fin H at_ (Same.refl H) ?_
      rw [show repS 1 ta = ta by rw [repS_succ]; show ta ++ [] = ta; rw [List.append_nil]]
      exact a2
    · refine fin _ q (sameNew hq _) ?_
      rw [upd_same, repS_map]
      rfl
/-! ### Road.of_units(..), of too many sections -/
def spOfUnitsU (C CI : Addr) : Sp := fun vs H Q E => ∃ (u : Str) (bs : List Bool), vs = [.ref C, .str u] ∧ u.cps.toList = bs.map letterC ∧ bs.length ≤ 1000 ∧ 12 < (runsOf bs).length ∧ (runsOf bs).length ≤ 1000 ∧ (∀ s ∈ runsOf bs, 1 ≤ s.2 ∧ s.2 ≤ 99) ∧ FldE CI "index" (.int 12) H E
theorem ok_ofUnitsU {f fI fR C CI lp kp : Addr} {fd dR : FuncData} (F : Fun K "of_units" "Road.of_units" sROfUnits f fd) (M : Mg mg) (R : RoadT K w mg C lp kp) (MK : Mk K C fI) (BR : Fb K mg "_runs" sRuns ["units"] fR dR)
    (GR : FnOk P w K mg base CX0 1 fR dR ["units"] spRuns) (GI : FnR P w K mg base (L2.CX P w) 4 fI (spRInitX C CI)) : FnOk P w K mg base (L2.CX P w) 6 f fd ["cls", "units"] (spOfUnitsU C CI) := by
  refine F.okX scOfUnits (fun vs H Q E h => ?_) (fun cdv A outer s H vs Q E hr h => ?_)
  · obtain ⟨u, bs, rfl, _⟩ := h
    rfl
  · obtain ⟨u, bs, rfl, hu, hlen, h12, h1000, hs, k⟩ := h
    have nd := scOfUnits.nd
    have hr5 : Room 5 (A.deeper (PyProof.Rows.envOfC "Road.of_units" (defScope sROfUnits) s.heap.objs.size f cdv)) := hr.mono (by decide)
    refine ⟨_, pss_cons (ps_if (pt_not (pt_val (pe_callB call_isi (by rfl) M.isinstance boot_isinstance (pa_cons (pv 1) (pa_cons (pe_bltn (v := .ty "str") (by rfl) M.str boot_tStr rfl) pa_nil))))) (pss_one ps_never) pss_nil)
      (pss_cons (ps_set (i := 2) nd rfl (.inl rfl) (pe_call GR (hr.mono (by decide)) (by rfl) BR.at_ BR.fn.kp BR.bd .nil pass0 (pa_cons (pv 1) pa_nil)))
      (pss_one (ps_ret (pe_makeLS MK GI hr5 (passes_call (takes_of rfl rfl rfl rfl) fun _ _ _ _ h => h) (pv 0) (pv 2))))), ?_⟩
    refine ⟨_, rfl, _, _, _, _, true, rfl, .ty _, .base (.str u), kit_ty (by decide +kernel), true, rfl, iteF ?_⟩
    refine ⟨_, rfl, u, bs, rfl, hu, hlen, fun H1 p s1 hp ⟨ts, h1, h2, h3⟩ => ?_⟩
    refine ⟨_, rfl, rfl, _, rfl, p, ts.map V.ref, rfl, .inr (SqL.of h1), fun x dx hx hdx ne => ?_⟩
    exact .inr (make_many h2 h3 hs h12 h1000 hx hdx ne fun H' d fs s => k H' d fs (s1.trans s))
/-! ### road == a text -/
def spREqS (C : Addr) : Sp := fun vs H Q _ => ∃ (a : Addr) (z : Str) (s1 : List Sec), vs = [.ref a, .str z] ∧ RoadAt C H a s1 ∧ Q (.bl false) H
theorem ok_rEqS {f C lp kp : Addr} {fd : FuncData} (F : Fun K "__eq__" "Road.__eq__" sREq f fd) (M : Mg mg) (R : RoadT K w mg C lp kp) (hk : PySem.W.kitOne K (.type "str") (.ref C) = some false) : FnOk P w K mg base CX0 1 f fd ["self", "other"] (spREqS C) := by
  refine F.ok scREq (fun vs H Q E h => ?_) (fun cdv A outer s H vs Q E hr h => ?_)
  · obtain ⟨a, b, s1, rfl, _⟩ := h
    rfl
  · obtain ⟨a, b, s1, rfl, _, k⟩ := h
    refine ⟨_, pss_one (ps_ret (pe_and (pe_callB call_isi (by rfl) M.isinstance boot_isinstance (pa_cons (pv 1) (pa_cons (pe_glob (v := .ref C) (by rfl) R.mgC rfl) pa_nil)))
      (pe_one (pe_cmpR op_eq (pe_fld (pv 0) rfl) (pe_fld (pv 1) rfl) (nomark _))))), ?_⟩
    exact ⟨_, rfl, _, _, _, _, false, rfl, .own _, .base (.str b), hk, false, rfl, iteF k⟩
end
end Sl

set_option Elab.async false
set_option linter.all false
set_option maxRecDepth 100000
set_option maxHeartbeats 2000000
namespace Sl
open PySem PySem.Spec L2 OwnR LamX
def Shp (n : Nat) (d : PyData) : Prop := d.canLay0 = true ∧ d.depth ≤ n
theorem Shp.ok {n : Nat} {d : PyData} (h : Shp n d) (hn : n ≤ 64) : SeqAt.shaped d = true := by
  unfold SeqAt.shaped
  rw [h.1, decide_eq_true (Nat.le_trans h.2 hn)]
  rfl
theorem shp_all {n : Nat} : ∀ {ds : List PyData}, (∀ d ∈ ds, Shp n d) → PyData.canLayAll0 ds = true ∧ PyData.depthAll ds ≤ n
  | [], _ => ⟨rfl, Nat.zero_le _⟩
  | d :: ds, h => by
    have h1 := h d List.mem_cons_self
    have h2 := shp_all (ds := ds) fun e he => h e (List.mem_cons_of_mem _ he)
    refine ⟨?_, ?_⟩
    · show (d.canLay0 && PyData.canLayAll0 ds) = true
      rw [h1.1, h2.1]
      rfl
    · show max d.depth (PyData.depthAll ds) ≤ n
      exact Nat.max_le.mpr ⟨h1.2, h2.2⟩
theorem shp_list {n : Nat} {ds : List PyData} (h : ∀ d ∈ ds, Shp n d) : Shp (n + 1) (.list ds) := ⟨(shp_all h).1, Nat.succ_le_succ (shp_all h).2⟩
theorem shp_tuple {n : Nat} {ds : List PyData} (h : ∀ d ∈ ds, Shp n d) : Shp (n + 1) (.tuple ds) := ⟨(shp_all h).1, Nat.succ_le_succ (shp_all h).2⟩
theorem shp_int (i : Int) : Shp 0 (.int i) := ⟨rfl, Nat.le_refl _⟩
theorem shp_non : Shp 0 .none := ⟨rfl, Nat.le_refl _⟩
theorem shp_str {x : Str} (h : PyData.strOk x = true) : Shp 0 (.str x) := ⟨h, Nat.le_refl _⟩
theorem Shp.same {n : Nat} {d : PyData} (h : Shp n d) : PyData.eqv d d = true := SeqAt.eqv_refl d h.1
theorem dp_refs {K : PySem.W.Frag} {H : Hp} {α : Type} (f : α → PyData) : ∀ {as : List Addr} {l : List α}, as.length = l.length → (∀ (i : Nat) (a : Addr) (x : α), as[i]? = some a → l[i]? = some x → Dp K H (.ref a) (f x)) → DpAll K H (as.map V.ref) (l.map f)
  | [], [], _, _ => .nil
  | a :: as, x :: l, hl, h => .cons (h 0 a x rfl rfl) (dp_refs f (by simpa using hl) fun i b y e1 e2 => h (i + 1) b y (by simpa using e1) (by simpa using e2))
theorem dp_vals {K : PySem.W.Frag} {H : Hp} {α : Type} (v : α → V) (f : α → PyData) (h : ∀ x, Dp K H (v x) (f x)) : ∀ (l : List α), DpAll K H (l.map v) (l.map f)
  | [] => .nil
  | x :: l => .cons (h x) (dp_vals v f h l)
theorem dec_int (a b : Int) : decide (V.int a = V.int b) = decide (a = b) := by
  rw [decide_eq_decide]
  exact ⟨V.int.inj, congrArg V.int⟩
end Sl

set_option Elab.async false
set_option linter.all false
set_option maxRecDepth 100000
set_option maxHeartbeats 2000000
/-! _law_told: what a call gives, or what its error says. -/
namespace Sl
open PySem PySem.Spec L2 OwnR LamX
/-- the classes that it knows -/
structure ErrTab (mg : Str → Option Value) (CE c0 c1 c2 c3 c4 : Addr) : Prop where
  gE : mg "RoadError" = some (.ref CE)
  g0 : mg "InvalidRoad" = some (.ref c0)
  g1 : mg "InvalidCars" = some (.ref c1)
  g2 : mg "UnknownSection" = some (.ref c2)
  g3 : mg "UnknownCar" = some (.ref c3)
  g4 : mg "InvalidNumber" = some (.ref c4)
  gv : mg "ValueError" = none
/-- C is the j-th of them -/
structure ErrJ (K : PySem.W.Frag) (CE c0 c1 c2 c3 c4 C : Addr) (j : Nat) : Prop where
  e : ErrC K C
  x : PySem.W.exmOne K (.ref C) (.ref CE) = some true
  k0 : PySem.W.kitOne K (.ref C) (.ref c0) = some (decide (j = 0))
  k1 : PySem.W.kitOne K (.ref C) (.ref c1) = some (decide (j = 1))
  k2 : PySem.W.kitOne K (.ref C) (.ref c2) = some (decide (j = 2))
  k3 : PySem.W.kitOne K (.ref C) (.ref c3) = some (decide (j = 3))
  k4 : PySem.W.kitOne K (.ref C) (.ref c4) = some (decide (j = 4))
  kv : PySem.W.kitOne K (.ref C) (.type "ValueError") = some true
/-- the tuple that is told -/
def toldV (j : Nat) (v : V) : List V := match j with
  | 0 => [.str "error", .str "InvalidRoad", v]
  | 1 => [.str "error", .str "InvalidCars", v]
  | 2 => [.str "error", .str "UnknownSection", v]
  | 3 => [.str "error", .str "UnknownCar", v]
  | _ => [.str "error", .str "InvalidNumber"]
/-- the error's field -/
def fldV (j : Nat) (d : Option Addr) (H : Hp) (v : V) : Prop := j = 4 ∨ ∃ dd fs, d = some dd ∧ H dd = some (.xd fs) ∧ fs.lookup (if j = 3 then ("name" : Str) else "index") = some v
theorem fldV.same {j : Nat} {d : Option Addr} {H H' : Hp} {v : V} (h : fldV j d H v) (e : Same H H') : fldV j d H' v := by
  rcases h with h | ⟨dd, fs, h1, h2, h3⟩
  · exact .inl h
  · exact .inr ⟨dd, fs, h1, e _ _ h2, h3⟩
def toldR (K : PySem.W.Frag) (CE c0 c1 c2 c3 c4 : Addr) (cls : Value) (d : Option Addr) (H : Hp) (Q : VK) : Prop :=
  ∃ (C : Addr) (j : Nat) (v : V), cls = .ref C ∧ ErrJ K CE c0 c1 c2 c3 c4 C j ∧ j < 5 ∧ DictK H d ∧ fldV j d H v ∧ ∀ H' p, Same H H' → H' p = some (.tup (toldV j v)) → Q (.ref p) H'
def TTel (K : PySem.W.Frag) (CE c0 c1 c2 c3 c4 : Addr) : (XK → Hp → VK → Prop) → Hp → VK → Prop := fun tl H Q => tl (fun cls d H' => toldR K CE c0 c1 c2 c3 c4 cls d H' Q) H Q
def nTold : List Str := ["_law_work", "_law_e", "_law_some", "_law_terms", "_law_k"]
theorem scTold : FnScope nTold ["_law_work"] (defScope sTold) := ⟨rfl, rfl, rfl, by decide +kernel, rfl, by decide +kernel, by decide +kernel⟩
/-- the reading of the suite -/
def tIsV (K : PySem.W.Frag) (C a : Addr) (d : Option Addr) (c : V) : TE := tCB (rIsV K C a d) (tCons (tVar 1) (tCons (tC c) tNil))
def tSuite (K : PySem.W.Frag) (c0 c1 c2 c3 c4 C a : Addr) (d : Option Addr) : TS :=
  tSeq (tAsg (tLst (tCons (tIsV K C a d (.ref c0)) (tCons (tIsV K C a d (.ref c1)) (tCons (tIsV K C a d (.ref c2)) tNil)))) (gName 2))
  (tSeq (tAsg (tOp rCat (tVar 2) (tLst (tCons (tIsV K C a d (.ref c3)) (tCons (tIsV K C a d (.ref c4)) tNil)))) (gName 2))
  (tSeq (tAsg (tLst (tCons (tC (.str "InvalidRoad")) (tCons (tC (.str "InvalidCars")) (tCons (tC (.str "UnknownSection")) (tCons (tC (.str "UnknownCar")) (tCons (tC (.str "InvalidNumber")) (tCons (tC (.str "other")) tNil))))))) (gName 3))
  (tSeq (tAsg (tIf (tAnd (tTest (tOp rEq (tBM K "list" (rCntV K) (tVar 2) (tCons (tC (.bl true)) tNil)) (tC (.int 1)))) (tB (tIsV K C a d (.ty "ValueError")))) (tBM K "list" (rIndex K) (tVar 2) (tCons (tC (.bl true)) tNil)) (tC (.int 5))) (gName 4))
  (tSeq (tIfS (tTest (tOp (rI0 fun i j => .bl (decide (i < j))) (tVar 4) (tC (.int 3)))) (tRet (tTup (tCons (tC (.str "error")) (tCons (tOp (rIxL K) (tVar 3) (tVar 4)) (tCons (tXf a (.ref C) d C "index" (tVar 1)) tNil))))) tNext)
  (tRet (tIf (tTest (tOp rEq (tVar 4) (tC (.int 3)))) (tTup (tCons (tC (.str "error")) (tCons (tOp (rIxL K) (tVar 3) (tVar 4)) (tCons (tXf a (.ref C) d C "name" (tVar 1)) tNil)))) (tTup (tCons (tC (.str "error")) (tCons (tOp (rIxL K) (tVar 3) (tVar 4)) tNil)))))))))
theorem pss_ex {X : Cx} {l : List Stmt} {α : Type} {t : α → TS} {p : α → Prop} (h : ∀ a, p a → PSs X l (t a)) : PSs X l (fun D σ H => ∃ a, p a ∧ t a D σ H) := ⟨fun pins s σ H D I ⟨a, pa, q⟩ => (h a pa).run pins s σ H D I q⟩
theorem told_gives {P : Program} {w : World} {K : PySem.W.Frag} {mg : Str → Option Value} {base : Heap} {A : Around} {stack : List Env} {g : Addr} {cdg : Value} {CE c0 c1 c2 c3 c4 : Addr} (M : Mg mg) (W : ErrTab mg CE c0 c1 c2 c3 c4) :
    GivesV P w K mg base A stack nTold "_law_told" (defScope sTold) g cdg (defBody sTold) "_law_work" (TTel K CE c0 c1 c2 c3 c4) := by
  intro f s H Q Held tl act hH h
  have nd := scTold.nd
  refine ⟨_, pss_one (ps_try_as (X := (cxOf L2.CX0 P w K mg base nTold "_law_told" (defScope sTold) g cdg A stack s H L2.E0).nox) (c := .ref CE) (i := 1)
      (tb := fun W D σ H => ∃ Ech : XK, (∀ cls d σ' H', σ'.length = nTold.length → Ech cls d H' → W cls d σ' H') ∧ σ[0]? = some (some (.ref f)) ∧ Held H ∧ tl Ech H D.rt)
      (ts := fun a cls d D σ H => ∃ q : Addr × Nat, (cls = .ref q.1 ∧ ErrJ K CE c0 c1 c2 c3 c4 q.1 q.2) ∧ tSuite K c0 c1 c2 c3 c4 q.1 a d D σ H)
      rfl rfl nd rfl rfl ⟨rfl, by decide, .inl W.gE⟩ LamX.takes0 (fun W pn xe tk _ => ⟨fun pins s' σ H' D I h' => ?_⟩) (fun a oe cls d pn hz hf => ?_)), ?_⟩
  · obtain ⟨Ech, hW, h1, h2, h3⟩ := h'
    exact (pss_one (ps_ret (act W pn xe Ech _ _ tk hW))).run pins s' σ H' D I ⟨h1, h2, h3⟩
  · refine pss_ex (p := fun q : Addr × Nat => cls = .ref q.1 ∧ ErrJ K CE c0 c1 c2 c3 c4 q.1 q.2) (t := fun q => tSuite K c0 c1 c2 c3 c4 q.1 a d) fun q hq => ?_
    have hz2 : Zc (.ref q.1) d oe := by rw [← hq.1]; exact hz
    have J := hq.2
    exact (pss_cons (ps_set (i := 2) nd rfl (.inl rfl) (pe_lst (pa_cons (pe_callB (call_isV J.e hz2 hf) (by rfl) M.isinstance boot_isinstance (pa_cons (pv 1) (pa_cons (pe_glob (v := .ref c0) (by rfl) W.g0 rfl) pa_nil))) (pa_cons (pe_callB (call_isV J.e hz2 hf) (by rfl) M.isinstance boot_isinstance (pa_cons (pv 1) (pa_cons (pe_glob (v := .ref c1) (by rfl) W.g1 rfl) pa_nil))) (pa_cons (pe_callB (call_isV J.e hz2 hf) (by rfl) M.isinstance boot_isinstance (pa_cons (pv 1) (pa_cons (pe_glob (v := .ref c2) (by rfl) W.g2 rfl) pa_nil))) pa_nil))))) (pss_cons (ps_set (i := 2) nd rfl (.inl rfl) (pe_op op_cat (pv 2) (pe_lst (pa_cons (pe_callB (call_isV J.e hz2 hf) (by rfl) M.isinstance boot_isinstance (pa_cons (pv 1) (pa_cons (pe_glob (v := .ref c3) (by rfl) W.g3 rfl) pa_nil))) (pa_cons (pe_callB (call_isV J.e hz2 hf) (by rfl) M.isinstance boot_isinstance (pa_cons (pv 1) (pa_cons (pe_glob (v := .ref c4) (by rfl) W.g4 rfl) pa_nil))) pa_nil))))) (pss_cons (ps_set (i := 3) nd rfl (.inl rfl) (pe_lst (pa_cons pe_str (pa_cons pe_str (pa_cons pe_str (pa_cons pe_str (pa_cons pe_str (pa_cons pe_str pa_nil)))))))) (pss_cons (ps_set (i := 4) nd rfl (.inl rfl) (pe_ifExp (PW.pt (pw_and (pt_cmpR op_eq (pe_bm PySem.F.plainAttrs_list PySem.F.slot_list_count PySem.F.type_list_count mt_countV (pv 2) (pa_cons pe_bl pa_nil)) pe_int (nomark _)) (pw_and1 (pt_val (pe_callB (call_isV J.e hz2 hf) (by rfl) M.isinstance boot_isinstance (pa_cons (pv 1) (pa_cons (pe_bltn (v := .ty "ValueError") (by rfl) W.gv PyProof.Rows.Boot.«ValueError» rfl) pa_nil))))))) (pe_bm PySem.F.plainAttrs_list PySem.F.slot_list_index PySem.F.type_list_index mt_index (pv 2) (pa_cons pe_bl pa_nil)) pe_int)) (pss_cons (ps_if (pt_cmpR op_lt (pv 4) pe_int (nomark _)) (pss_one (ps_ret (pe_tup (pa_cons pe_str (pa_cons (pe_ix ix_list (pv 3) (pv 4) (fun _ _ => rfl)) (pa_cons (pe_xf J.e.xf J.e.ix hz2 hf (pv 1)) pa_nil)))))) pss_nil) (pss_one (ps_ret (pe_ifExp (pt_cmpR op_eq (pv 4) pe_int (nomark _)) (pe_tup (pa_cons pe_str (pa_cons (pe_ix ix_list (pv 3) (pv 4) (fun _ _ => rfl)) (pa_cons (pe_xf J.e.xf J.e.nm hz2 hf (pv 1)) pa_nil)))) (pe_tup (pa_cons pe_str (pa_cons (pe_ix ix_list (pv 3) (pv 4) (fun _ _ => rfl)) pa_nil)))))))))))
  · refine ⟨fun cls d H' => toldR K CE c0 c1 c2 c3 c4 cls d H' Q, ?_, rfl, hH, h⟩
    rintro cls d σ' H1 hl ⟨C, j, v, rfl, J, hj, hd, hf, hQ⟩
    obtain ⟨x0, x1, x2, x3, x4, rfl⟩ : ∃ x0 x1 x2 x3 x4, σ' = [x0, x1, x2, x3, x4] := by
      match σ', hl with
      | [x0, x1, x2, x3, x4], _ => exact ⟨x0, x1, x2, x3, x4, rfl⟩
    refine ⟨true, J.x, fun _ a ha => ⟨(C, j), ⟨rfl, J⟩, ?_⟩, fun z => nomatch z⟩
    show tSuite K c0 c1 c2 c3 c4 C a d _ _ H1
    have dk : ∀ {H2 : Hp}, Same H1 H2 → DictK H2 d := fun e => hd.ext (ExtN.same e)
    have isv : ∀ {σ : L2.St} {H2 : Hp} {c : V} {cv : Value} {b : Bool} {Q2 : VK}, σ[1]? = some (some (.ref a)) → Same H1 H2 → (∀ u, RelV c u → u = cv) → PySem.W.kitOne K (.ref C) cv = some b → Q2 (.bl b) H2 → tIsV K C a d c σ H2 Q2 :=
      fun hσ e hc hk hq => ⟨_, hσ, _, _, _, rfl, hc, hk, dk e, hq⟩
    unfold tSuite
    match j, hj with
    | 0, _ =>
      refine isv rfl (Same.refl _) (fun u e => e) J.k0 (isv rfl (Same.refl _) (fun u e => e) J.k1 (isv rfl (Same.refl _) (fun u e => e) J.k2 ⟨by show 3 ≤ sizeLine; decide, fun p1 hp1 => ?_⟩))
      have s1 := sameNew hp1 (.lst [.bl true, .bl false, .bl false])
      refine ⟨_, rfl, isv rfl s1 (fun u e => e) J.k3 (isv rfl s1 (fun u e => e) J.k4 ⟨by show 2 ≤ sizeLine; decide, fun p2 hp2 => ?_⟩)⟩
      have s2 := s1.trans (sameNew hp2 (.lst [.bl false, .bl false]))
      refine ⟨p1, p2, [.bl true, .bl false, .bl false], [.bl false, .bl false], rfl, rfl, sameNew hp2 _ _ _ upd_same, upd_same, by show 5 ≤ sizeLine; decide, fun p3 hp3 => ?_⟩
      have s3 := s2.trans (sameNew hp3 (.lst [.bl true, .bl false, .bl false, .bl false, .bl false]))
      have h3 : upd (upd (upd H1 p1 (.lst [.bl true, .bl false, .bl false])) p2 (.lst [.bl false, .bl false])) p3 (.lst [.bl true, .bl false, .bl false, .bl false, .bl false]) p3 = some (.lst [.bl true, .bl false, .bl false, .bl false, .bl false]) := upd_same
      refine ⟨by show 6 ≤ sizeLine; decide, fun p4 hp4 => ?_⟩
      have s4 := s3.trans (sameNew hp4 (.lst [.str "InvalidRoad", .str "InvalidCars", .str "UnknownSection", .str "UnknownCar", .str "InvalidNumber", .str "other"]))
      have h4 := sameNew hp4 (.lst [.str "InvalidRoad", .str "InvalidCars", .str "UnknownSection", .str "UnknownCar", .str "InvalidNumber", .str "other"]) _ _ h3
      refine ⟨_, rfl, .inl ⟨rfl, _, SqL.of h4⟩, p3, [.bl true, .bl false, .bl false, .bl false, .bl false], .bl true, rfl, rfl, SqL.of h4, rfl, rfl, rfl, _, rfl, iteT ?_⟩
      refine isv rfl s4 (fun u e => e) J.kv ⟨true, rfl, iteT ?_⟩
      refine ⟨_, rfl, .inl ⟨rfl, _, SqL.of h4⟩, p3, [.bl true, .bl false, .bl false, .bl false, .bl false], .bl true, 0, .bl true, rfl, rfl, SqL.of h4, rfl, rfl, rfl, rfl, fun m z' hm e => ?_, ?_⟩
      · exact absurd hm (by omega)
      have hix : upd (upd (upd (upd H1 p1 (.lst [.bl true, .bl false, .bl false])) p2 (.lst [.bl false, .bl false])) p3 (.lst [.bl true, .bl false, .bl false, .bl false, .bl false])) p4 (.lst [.str "InvalidRoad", .str "InvalidCars", .str "UnknownSection", .str "UnknownCar", .str "InvalidNumber", .str "other"]) p4 = some (.lst [.str "InvalidRoad", .str "InvalidCars", .str "UnknownSection", .str "UnknownCar", .str "InvalidNumber", .str "other"]) := upd_same
      refine ⟨_, rfl, _, _, rfl, rfl, _, rfl, ?_⟩
      refine iteT ⟨_, rfl, _, rfl, p4, _, ((0 : Nat) : Int), .str "InvalidRoad", rfl, rfl, SqL.of hix, atI_nat rfl, ?_⟩
      rcases hf with hf | ⟨dd, fs, rfl, hdd, hfl⟩
      · exact absurd hf (by decide)
      refine ⟨_, rfl, rfl, rfl, dd, fs, v, rfl, s4 _ _ hdd, hfl, by show 3 ≤ sizeLine; decide, fun p hp => ?_⟩
      exact hQ _ p (s4.trans (sameNew hp _)) upd_same
    | 1, _ =>
      refine isv rfl (Same.refl _) (fun u e => e) J.k0 (isv rfl (Same.refl _) (fun u e => e) J.k1 (isv rfl (Same.refl _) (fun u e => e) J.k2 ⟨by show 3 ≤ sizeLine; decide, fun p1 hp1 => ?_⟩))
      have s1 := sameNew hp1 (.lst [.bl false, .bl true, .bl false])
      refine ⟨_, rfl, isv rfl s1 (fun u e => e) J.k3 (isv rfl s1 (fun u e => e) J.k4 ⟨by show 2 ≤ sizeLine; decide, fun p2 hp2 => ?_⟩)⟩
      have s2 := s1.trans (sameNew hp2 (.lst [.bl false, .bl false]))
      refine ⟨p1, p2, [.bl false, .bl true, .bl false], [.bl false, .bl false], rfl, rfl, sameNew hp2 _ _ _ upd_same, upd_same, by show 5 ≤ sizeLine; decide, fun p3 hp3 => ?_⟩
      have s3 := s2.trans (sameNew hp3 (.lst [.bl false, .bl true, .bl false, .bl false, .bl false]))
      have h3 : upd (upd (upd H1 p1 (.lst [.bl false, .bl true, .bl false])) p2 (.lst [.bl false, .bl false])) p3 (.lst [.bl false, .bl true, .bl false, .bl false, .bl false]) p3 = some (.lst [.bl false, .bl true, .bl false, .bl false, .bl false]) := upd_same
      refine ⟨by show 6 ≤ sizeLine; decide, fun p4 hp4 => ?_⟩
      have s4 := s3.trans (sameNew hp4 (.lst [.str "InvalidRoad", .str "InvalidCars", .str "UnknownSection", .str "UnknownCar", .str "InvalidNumber", .str "other"]))
      have h4 := sameNew hp4 (.lst [.str "InvalidRoad", .str "InvalidCars", .str "UnknownSection", .str "UnknownCar", .str "InvalidNumber", .str "other"]) _ _ h3
      refine ⟨_, rfl, .inl ⟨rfl, _, SqL.of h4⟩, p3, [.bl false, .bl true, .bl false, .bl false, .bl false], .bl true, rfl, rfl, SqL.of h4, rfl, rfl, rfl, _, rfl, iteT ?_⟩
      refine isv rfl s4 (fun u e => e) J.kv ⟨true, rfl, iteT ?_⟩
      refine ⟨_, rfl, .inl ⟨rfl, _, SqL.of h4⟩, p3, [.bl false, .bl true, .bl false, .bl false, .bl false], .bl true, 1, .bl true, rfl, rfl, SqL.of h4, rfl, rfl, rfl, rfl, fun m z' hm e => ?_, ?_⟩
      · match m, hm, e with
        | 0, _, e => cases e; rfl
      have hix : upd (upd (upd (upd H1 p1 (.lst [.bl false, .bl true, .bl false])) p2 (.lst [.bl false, .bl false])) p3 (.lst [.bl false, .bl true, .bl false, .bl false, .bl false])) p4 (.lst [.str "InvalidRoad", .str "InvalidCars", .str "UnknownSection", .str "UnknownCar", .str "InvalidNumber", .str "other"]) p4 = some (.lst [.str "InvalidRoad", .str "InvalidCars", .str "UnknownSection", .str "UnknownCar", .str "InvalidNumber", .str "other"]) := upd_same
      refine ⟨_, rfl, _, _, rfl, rfl, _, rfl, ?_⟩
      refine iteT ⟨_, rfl, _, rfl, p4, _, ((1 : Nat) : Int), .str "InvalidCars", rfl, rfl, SqL.of hix, atI_nat rfl, ?_⟩
      rcases hf with hf | ⟨dd, fs, rfl, hdd, hfl⟩
      · exact absurd hf (by decide)
      refine ⟨_, rfl, rfl, rfl, dd, fs, v, rfl, s4 _ _ hdd, hfl, by show 3 ≤ sizeLine; decide, fun p hp => ?_⟩
      exact hQ _ p (s4.trans (sameNew hp _)) upd_same
    | 2, _ =>
      refine isv rfl (Same.refl _) (fun u e => e) J.k0 (isv rfl (Same.refl _) (fun u e => e) J.k1 (isv rfl (Same.refl _) (fun u e => e) J.k2 ⟨by show 3 ≤ sizeLine; decide, fun p1 hp1 => ?_⟩))
      have s1 := sameNew hp1 (.lst [.bl false, .bl false, .bl true])
      refine ⟨_, rfl, isv rfl s1 (fun u e => e) J.k3 (isv rfl s1 (fun u e => e) J.k4 ⟨by show 2 ≤ sizeLine; decide, fun p2 hp2 => ?_⟩)⟩
      have s2 := s1.trans (sameNew hp2 (.lst [.bl false, .bl false]))
      refine ⟨p1, p2, [.bl false, .bl false, .bl true], [.bl false, .bl false], rfl, rfl, sameNew hp2 _ _ _ upd_same, upd_same, by show 5 ≤ sizeLine; decide, fun p3 hp3 => ?_⟩
      have s3 := s2.trans (sameNew hp3 (.lst [.bl false, .bl false, .bl true, .bl false, .bl false]))
      have h3 : upd (upd (upd H1 p1 (.lst [.bl false, .bl false, .bl true])) p2 (.lst [.bl false, .bl false])) p3 (.lst [.bl false, .bl false, .bl true, .bl false, .bl false]) p3 = some (.lst [.bl false, .bl false, .bl true, .bl false, .bl false]) := upd_same
      refine ⟨by show 6 ≤ sizeLine; decide, fun p4 hp4 => ?_⟩
      have s4 := s3.trans (sameNew hp4 (.lst [.str "InvalidRoad", .str "InvalidCars", .str "UnknownSection", .str "UnknownCar", .str "InvalidNumber", .str "other"]))
      have h4 := sameNew hp4 (.lst [.str "InvalidRoad", .str "InvalidCars", .str "UnknownSection", .str "UnknownCar", .str "InvalidNumber", .str "other"]) _ _ h3
      refine ⟨_, rfl, .inl ⟨rfl, _, SqL.of h4⟩, p3, [.bl false, .bl false, .bl true, .bl false, .bl false], .bl true, rfl, rfl, SqL.of h4, rfl, rfl, rfl, _, rfl, iteT ?_⟩
      refine isv rfl s4 (fun u e => e) J.kv ⟨true, rfl, iteT ?_⟩
      refine ⟨_, rfl, .inl ⟨rfl, _, SqL.of h4⟩, p3, [.bl false, .bl false, .bl true, .bl false, .bl false], .bl true, 2, .bl true, rfl, rfl, SqL.of h4, rfl, rfl, rfl, rfl, fun m z' hm e => ?_, ?_⟩
      · match m, hm, e with
        | 0, _, e => cases e; rfl
        | 1, _, e => cases e; rfl
      have hix : upd (upd (upd (upd H1 p1 (.lst [.bl false, .bl false, .bl true])) p2 (.lst [.bl false, .bl false])) p3 (.lst [.bl false, .bl false, .bl true, .bl false, .bl false])) p4 (.lst [.str "InvalidRoad", .str "InvalidCars", .str "UnknownSection", .str "UnknownCar", .str "InvalidNumber", .str "other"]) p4 = some (.lst [.str "InvalidRoad", .str "InvalidCars", .str "UnknownSection", .str "UnknownCar", .str "InvalidNumber", .str "other"]) := upd_same
      refine ⟨_, rfl, _, _, rfl, rfl, _, rfl, ?_⟩
      refine iteT ⟨_, rfl, _, rfl, p4, _, ((2 : Nat) : Int), .str "UnknownSection", rfl, rfl, SqL.of hix, atI_nat rfl, ?_⟩
      rcases hf with hf | ⟨dd, fs, rfl, hdd, hfl⟩
      · exact absurd hf (by decide)
      refine ⟨_, rfl, rfl, rfl, dd, fs, v, rfl, s4 _ _ hdd, hfl, by show 3 ≤ sizeLine; decide, fun p hp => ?_⟩
      exact hQ _ p (s4.trans (sameNew hp _)) upd_same
    | 3, _ =>
      refine isv rfl (Same.refl _) (fun u e => e) J.k0 (isv rfl (Same.refl _) (fun u e => e) J.k1 (isv rfl (Same.refl _) (fun u e => e) J.k2 ⟨by show 3 ≤ sizeLine; decide, fun p1 hp1 => ?_⟩))
      have s1 := sameNew hp1 (.lst [.bl false, .bl false, .bl false])
      refine ⟨_, rfl, isv rfl s1 (fun u e => e) J.k3 (isv rfl s1 (fun u e => e) J.k4 ⟨by show 2 ≤ sizeLine; decide, fun p2 hp2 => ?_⟩)⟩
      have s2 := s1.trans (sameNew hp2 (.lst [.bl true, .bl false]))
      refine ⟨p1, p2, [.bl false, .bl false, .bl false], [.bl true, .bl false], rfl, rfl, sameNew hp2 _ _ _ upd_same, upd_same, by show 5 ≤ sizeLine; decide, fun p3 hp3 => ?_⟩
      have s3 := s2.trans (sameNew hp3 (.lst [.bl false, .bl false, .bl false, .bl true, .bl false]))
      have h3 : upd (upd (upd H1 p1 (.lst [.bl false, .bl false, .bl false])) p2 (.lst [.bl true, .bl false])) p3 (.lst [.bl false, .bl false, .bl false, .bl true, .bl false]) p3 = some (.lst [.bl false, .bl false, .bl false, .bl true, .bl false]) := upd_same
      refine ⟨by show 6 ≤ sizeLine; decide, fun p4 hp4 => ?_⟩
      have s4 := s3.trans (sameNew hp4 (.lst [.str "InvalidRoad", .str "InvalidCars", .str "UnknownSection", .str "UnknownCar", .str "InvalidNumber", .str "other"]))
      have h4 := sameNew hp4 (.lst [.str "InvalidRoad", .str "InvalidCars", .str "UnknownSection", .str "UnknownCar", .str "InvalidNumber", .str "other"]) _ _ h3
      refine ⟨_, rfl, .inl ⟨rfl, _, SqL.of h4⟩, p3, [.bl false, .bl false, .bl false, .bl true, .bl false], .bl true, rfl, rfl, SqL.of h4, rfl, rfl, rfl, _, rfl, iteT ?_⟩
      refine isv rfl s4 (fun u e => e) J.kv ⟨true, rfl, iteT ?_⟩
      refine ⟨_, rfl, .inl ⟨rfl, _, SqL.of h4⟩, p3, [.bl false, .bl false, .bl false, .bl true, .bl false], .bl true, 3, .bl true, rfl, rfl, SqL.of h4, rfl, rfl, rfl, rfl, fun m z' hm e => ?_, ?_⟩
      · match m, hm, e with
        | 0, _, e => cases e; rfl
        | 1, _, e => cases e; rfl
        | 2, _, e => cases e; rfl
      have hix : upd (upd (upd (upd H1 p1 (.lst [.bl false, .bl false, .bl false])) p2 (.lst [.bl true, .bl false])) p3 (.lst [.bl false, .bl false, .bl false, .bl true, .bl false])) p4 (.lst [.str "InvalidRoad", .str "InvalidCars", .str "UnknownSection", .str "UnknownCar", .str "InvalidNumber", .str "other"]) p4 = some (.lst [.str "InvalidRoad", .str "InvalidCars", .str "UnknownSection", .str "UnknownCar", .str "InvalidNumber", .str "other"]) := upd_same
      refine ⟨_, rfl, _, _, rfl, rfl, _, rfl, ?_⟩
      refine iteF ⟨_, rfl, rfl, _, rfl, iteT ?_⟩
      refine ⟨_, rfl, _, rfl, p4, _, ((3 : Nat) : Int), .str "UnknownCar", rfl, rfl, SqL.of hix, atI_nat rfl, ?_⟩
      rcases hf with hf | ⟨dd, fs, rfl, hdd, hfl⟩
      · exact absurd hf (by decide)
      refine ⟨_, rfl, rfl, rfl, dd, fs, v, rfl, s4 _ _ hdd, hfl, by show 3 ≤ sizeLine; decide, fun p hp => ?_⟩
      exact hQ _ p (s4.trans (sameNew hp _)) upd_same
    | 4, _ =>
      refine isv rfl (Same.refl _) (fun u e => e) J.k0 (isv rfl (Same.refl _) (fun u e => e) J.k1 (isv rfl (Same.refl _) (fun u e => e) J.k2 ⟨by show 3 ≤ sizeLine; decide, fun p1 hp1 => ?_⟩))
      have s1 := sameNew hp1 (.lst [.bl false, .bl false, .bl false])
      refine ⟨_, rfl, isv rfl s1 (fun u e => e) J.k3 (isv rfl s1 (fun u e => e) J.k4 ⟨by show 2 ≤ sizeLine; decide, fun p2 hp2 => ?_⟩)⟩
      have s2 := s1.trans (sameNew hp2 (.lst [.bl false, .bl true]))
      refine ⟨p1, p2, [.bl false, .bl false, .bl false], [.bl false, .bl true], rfl, rfl, sameNew hp2 _ _ _ upd_same, upd_same, by show 5 ≤ sizeLine; decide, fun p3 hp3 => ?_⟩
      have s3 := s2.trans (sameNew hp3 (.lst [.bl false, .bl false, .bl false, .bl false, .bl true]))
      have h3 : upd (upd (upd H1 p1 (.lst [.bl false, .bl false, .bl false])) p2 (.lst [.bl false, .bl true])) p3 (.lst [.bl false, .bl false, .bl false, .bl false, .bl true]) p3 = some (.lst [.bl false, .bl false, .bl false, .bl false, .bl true]) := upd_same
      refine ⟨by show 6 ≤ sizeLine; decide, fun p4 hp4 => ?_⟩
      have s4 := s3.trans (sameNew hp4 (.lst [.str "InvalidRoad", .str "InvalidCars", .str "UnknownSection", .str "UnknownCar", .str "InvalidNumber", .str "other"]))
      have h4 := sameNew hp4 (.lst [.str "InvalidRoad", .str "InvalidCars", .str "UnknownSection", .str "UnknownCar", .str "InvalidNumber", .str "other"]) _ _ h3
      refine ⟨_, rfl, .inl ⟨rfl, _, SqL.of h4⟩, p3, [.bl false, .bl false, .bl false, .bl false, .bl true], .bl true, rfl, rfl, SqL.of h4, rfl, rfl, rfl, _, rfl, iteT ?_⟩
      refine isv rfl s4 (fun u e => e) J.kv ⟨true, rfl, iteT ?_⟩
      refine ⟨_, rfl, .inl ⟨rfl, _, SqL.of h4⟩, p3, [.bl false, .bl false, .bl false, .bl false, .bl true], .bl true, 4, .bl true, rfl, rfl, SqL.of h4, rfl, rfl, rfl, rfl, fun m z' hm e => ?_, ?_⟩
      · match m, hm, e with
        | 0, _, e => cases e; rfl
        | 1, _, e => cases e; rfl
        | 2, _, e => cases e; rfl
        | 3, _, e => cases e; rfl
      have hix : upd (upd (upd (upd H1 p1 (.lst [.bl false, .bl false, .bl false])) p2 (.lst [.bl false, .bl true])) p3 (.lst [.bl false, .bl false, .bl false, .bl false, .bl true])) p4 (.lst [.str "InvalidRoad", .str "InvalidCars", .str "UnknownSection", .str "UnknownCar", .str "InvalidNumber", .str "other"]) p4 = some (.lst [.str "InvalidRoad", .str "InvalidCars", .str "UnknownSection", .str "UnknownCar", .str "InvalidNumber", .str "other"]) := upd_same
      refine ⟨_, rfl, _, _, rfl, rfl, _, rfl, ?_⟩
      refine iteF ⟨_, rfl, rfl, _, rfl, iteF ?_⟩
      refine ⟨_, rfl, _, rfl, p4, _, ((4 : Nat) : Int), .str "InvalidNumber", rfl, rfl, SqL.of hix, atI_nat rfl, by show 2 ≤ sizeLine; decide, fun p hp => ?_⟩
      exact hQ _ p (s4.trans (sameNew hp _)) upd_same
end Sl

set_option Elab.async false
set_option linter.all false
set_option maxRecDepth 100000
set_option maxHeartbeats 4000000
namespace Sl
open PySem PySem.Spec L2 OwnR LamX
theorem boot_min : bootBuiltins "min" = some (.builtin "min") := by decide +kernel
theorem SecBad.extN {H H' : Hp} {v : V} (h : SecBad H v) (e : ExtN H H') : SecBad H' v := by
  rcases h with h | ⟨a, xs, h1, h2⟩ | ⟨a, xs, h1, h2, h3⟩ | ⟨a, z, v2, h1, h2, h3⟩
  · exact .inl h
  · exact .inr (.inl ⟨a, xs, h1, e _ _ h2 (fun _ z => nomatch z)⟩)
  · exact .inr (.inr (.inl ⟨a, xs, h1, e _ _ h2 (fun _ z => nomatch z), h3⟩))
  · exact .inr (.inr (.inr ⟨a, z, v2, h1, e _ _ h2 (fun _ z => nomatch z), h3⟩))
/-- Road(..) of what holds no section -/
theorem make_bad {C CI x dx : Addr} {H : Hp} {xs : List V} {i : Nat} {E : XK} {Q : VK} (hi : i < xs.length) (hl : xs.length ≤ 12) (hg : ∀ j, j < i → ∃ (tt : Addr) (s : Sec), xs[j]? = some (.ref tt) ∧ H tt = some (.tup (secV s)) ∧ 1 ≤ s.2 ∧ s.2 ≤ 99) (hb : ∃ v, xs[i]? = some v ∧ SecBad H v) (hx : H x = none) (hdx : H dx = none) (ne : dx ≠ x)
    (k : FldE CI "index" (.int ((i : Nat) : Int)) H E) : spRInitU C CI (.ref x :: xs) (upd (upd H dx (.own x)) x (.ins C dx [])) Q E := by
  refine ⟨[.ref x], xs, rfl, rfl, Nat.le_of_lt (small1000 (by omega)), fun p hp => ?_⟩
  have old : Same H (upd (upd (upd H dx (.own x)) x (.ins C dx [])) p (.tup xs)) := fun b o e => by
    have e2 : (upd (upd H dx (.own x)) x (.ins C dx [])) b = some o := by
      rw [upd_ne (ne_of_none e hx), upd_ne (ne_of_none e hdx)]
      exact e
    rw [upd_ne (ne_of_none e2 hp)]
    exact e2
  obtain ⟨v, hv, hb⟩ := hb
  refine ⟨x, dx, p, xs, i, rfl, upd_same, by omega, hi, fun j hj => ?_, by omega, .inr ⟨v, hv, hb.same old⟩, fun H' d fs s => k H' d fs (old.trans s)⟩
  obtain ⟨tt, sc, g1, g2, g3⟩ := hg j hj
  exact ⟨tt, sc, g1, old _ _ g2, g3⟩
section
variable {P : Program} {w : World} {K : PySem.W.Frag} {mg : Str → Option Value} {base : Heap}
def spRoadOf (K : PySem.W.Frag) (T : List (Addr × Str)) : Sp := fun vs H Q _ => ∃ (r sc l : Addr) (ns : List Int) (secs : List Sec), vs = [.ref r, .ref l] ∧ RunsAt H l secs ∧ SecsOk secs ∧ secs.length ≤ 4 ∧ l ≠ r ∧ RowAt K H r sc ns ∧ Tabs T H ∧ ∀ H', RowAt K H' r sc ns → Tabs T H' → Q (.bl true) H'
def qRoadOf : Str := ("_law_road_of" : Str) ++ (".<locals>." : Str) ++ ("<lambda>" : Str)
def nRoadOf : List Str := ["_law_d", "_law_parts_here", "_law_k", "_law_odd", "_law_one", "_law_two", "_law_three", "_law_four", "_law_five", "_law_work"]
theorem scRoadOf : FnScope nRoadOf ["_law_d", "_law_parts_here"] (defScope sRoadOf) := ⟨rfl, rfl, rfl, by decide +kernel, rfl, by decide +kernel, by decide +kernel⟩
theorem ok_roadOf {f c Pt C CE CI c1 c2 c3 CN fI lp kp : Addr} {fd : FuncData} {T : List (Addr × Str)} (F : FunC K "_law_road_of" "_law_road_of" sRoadOf f fd c) (TB : TabB base mg c Pt) (hm : (Pt, qRoadOf) ∈ T) (hut : ∀ p ∈ T, p.1 = Pt → p.2 = qRoadOf) (M : Mg mg) (Mn : mg "min" = none) (R : RoadT K w mg C lp kp) (MK : Mk K C fI)
    (GI : FnR P w K mg base (L2.CX P w) 4 fI (spRInitX C CI)) (ET : ErrTab mg CE CI c1 c2 c3 CN) (J0 : ErrJ K CE CI c1 c2 c3 CN CI 0) (IN : ∃ f fd, Fb K mg "_law_next" sNext ["_law_dice_here", "_law_many"] f fd ∧ FnOk P w K mg base CX0 1 f fd ["_law_dice_here", "_law_many"] (spNext K))
    (IP : ∃ f fd, Fb K mg "_law_pick" sPick ["_law_d", "_law_some"] f fd ∧ FnOk P w K mg base CX0 2 f fd ["_law_d", "_law_some"] (spPick K)) (IT : ∃ g cdv, Teller K mg "_law_told" "_law_work" g nTold (defBody sTold) (defScope sTold) cdv) : FnOk P w K mg base CX0 8 f fd ["_law_d", "_law_parts_here"] (spRoadOf K T) := by
  refine F.ok scRoadOf (fun vs H Q E h => ?_) (fun A outer s H vs Q E hr h => ?_)
  · obtain ⟨r, sc, l, ns, secs, rfl, _⟩ := h
    rfl
  · obtain ⟨r, sc, l, ns, secs, rfl, rn, SO, l4, nl, R0, T0, k⟩ := h
    have nd := scRoadOf.nd
    have hu64 := hr.units
    obtain ⟨_, _, BNe, GNe⟩ := IN
    obtain ⟨_, _, BPi, GPi⟩ := IP
    obtain ⟨_, _, WT⟩ := IT
    have hr1 : Room 1 (A.deeper (PyProof.Rows.envOfC "_law_road_of" (defScope sRoadOf) s.heap.objs.size f (.ref c))) := hr.mono (by decide)
    have hr2 : Room 2 (A.deeper (PyProof.Rows.envOfC "_law_road_of" (defScope sRoadOf) s.heap.objs.size f (.ref c))) := hr.mono (by decide)
    have hr7 : Room (5 + 2) (A.deeper (PyProof.Rows.envOfC "_law_road_of" (defScope sRoadOf) s.heap.objs.size f (.ref c))) := hr.mono (by decide)
    refine ⟨_, (pss_cons (ps_set (i := 2) nd rfl (.inl rfl) (pe_call GNe hr1 (by rfl) BNe.at_ BNe.fn.kp BNe.bd .nil pass0 (pa_cons (pv 0) (pa_cons (pe_op op_add (pe_callB call_len_seq (by rfl) M.len boot_len (pa_cons (pv 1) pa_nil)) pe_int) pa_nil)))) (pss_cons (ps_set (i := 3) nd rfl (.inl rfl) (pe_lst (pa_cons (pe_tup (pa_cons pe_str (pa_cons pe_int pa_nil))) (pa_cons (pe_tup (pa_cons pe_str (pa_cons pe_int pa_nil))) (pa_cons (pe_tup (pa_cons pe_str (pa_cons pe_int pa_nil))) (pa_cons (pe_tup (pa_cons pe_str (pa_cons pe_bl pa_nil))) (pa_cons (pe_tup (pa_cons pe_str pa_nil)) (pa_cons (pe_lst (pa_cons pe_str (pa_cons pe_int pa_nil))) (pa_cons pe_non (pa_cons (pe_tup (pa_cons pe_str (pa_cons pe_str pa_nil))) pa_nil)))))))))) (pss_cons (ps_asg (pe_slice sl_list (pe_op op_cat (pe_op op_cat (pe_op op_cat (pe_slice sl_list (pv 1) po_none (po_some (pv 2))) (pe_lst (pa_cons (pe_call GPi hr2 (by rfl) BPi.at_ BPi.fn.kp BPi.bd .nil pass0 (pa_cons (pv 0) (pa_cons (pv 3) pa_nil))) pa_nil))) (pe_slice sl_list (pv 1) (po_some (pv 2)) po_none)) (pe_lst (pa_cons pe_int (pa_cons pe_int (pa_cons pe_int (pa_cons pe_int pa_nil)))))) po_none (po_some pe_int)) (pg_lst rfl (pgs_cons (pg_name (i := 4) nd rfl (.inr rfl)) (pgs_cons (pg_name (i := 5) nd rfl (.inr rfl)) (pgs_cons (pg_name (i := 6) nd rfl (.inr rfl)) (pgs_cons (pg_name (i := 7) nd rfl (.inr rfl)) (pgs_cons (pg_name (i := 8) nd rfl (.inr rfl)) pgs_nil))))))) (pss_cons (ps_set (i := 9) nd rfl (.inl rfl) (pe_lst (pa_cons (pe_lamV TB rfl hm hut (lamS2_by (N := nRoadOf) (sc := defScope sRoadOf) (by decide +kernel))) (pa_cons (pe_lamD (a := "_law_a") TB rfl hm hut (lamS2_by (N := nRoadOf) (sc := defScope sRoadOf) (by decide +kernel))) (pa_cons (pe_lamD (a := "_law_b") TB rfl hm hut (lamS2_by (N := nRoadOf) (sc := defScope sRoadOf) (by decide +kernel))) pa_nil))))) (pss_cons (ps_set (i := 9) nd rfl (.inl rfl) (pe_op op_cat (pv 9) (pe_lst (pa_cons (pe_lamD (a := "_law_c") TB rfl hm hut (lamS2_by (N := nRoadOf) (sc := defScope sRoadOf) (by decide +kernel))) (pa_cons (pe_lamD (a := "_law_e") TB rfl hm hut (lamS2_by (N := nRoadOf) (sc := defScope sRoadOf) (by decide +kernel))) pa_nil))))) (pss_one (ps_ret (pe_cmpR (op_eqD hu64) (pe_told WT (by rfl) (told_gives M ET) hr7 (pe_ix ix_list (pv 9) (pe_callB (call_min2 rfl) (by rfl) Mn boot_min (pa_cons (pe_callB call_len_seq (by rfl) M.len boot_len (pa_cons (pv 1) pa_nil)) (pa_cons pe_int pa_nil))) (fun _ _ => rfl))) (pe_tup (pa_cons pe_str (pa_cons pe_str (pa_cons (pv 2) pa_nil)))) (nomark _))))))))), ?_⟩
    obtain ⟨us, u1, u2, u3⟩ := id rn
    have hus : (us.map V.ref).length = secs.length := by rw [List.length_map, u2]
    have l1 : 1 ≤ secs.length := by
      cases h : secs with
      | nil => exact absurd h SO.ne
      | cons _ _ => simp
    refine ⟨_, rfl, _, rfl, l, _, rfl, .inl (SqL.of u1), _, _, rfl, rfl, ?_⟩
    rw [hus]
    refine ⟨r, sc, ns, secs.length + 1, rfl, by omega, by omega, R0, fun H1 kk k1 R1 hkk => ?_⟩
    obtain ⟨x0, hx0⟩ := R0.lst
    have T1 : Tabs T H1 := Tabs.keepL T0 (k1.notlst hx0)
    have rn1 := rn.keep k1 nl hx0
    clear u1 u3 us u2 hus rn T0 R0 k1 hx0
    -- what is no section
    refine ⟨by show 2 ≤ sizeLine; decide, fun a1 h1 => ⟨by show 2 ≤ sizeLine; decide, fun a2 h2 => ⟨by show 2 ≤ sizeLine; decide, fun a3 h3 => ⟨by show 2 ≤ sizeLine; decide, fun a4 h4 => ⟨by show 1 ≤ sizeLine; decide, fun a5 h5 => ⟨by show 2 ≤ sizeLine; decide, fun a6 h6 => ⟨by show 2 ≤ sizeLine; decide, fun a8 h8 => ⟨by show 8 ≤ sizeLine; decide, fun od hod => ?_⟩⟩⟩⟩⟩⟩⟩⟩
    have q1 := sameNew h1 (.tup [V.str "narrow", V.int 0])
    have q2 := sameNew h2 (.tup [V.str "wide", V.int 100])
    have q3 := sameNew h3 (.tup [V.str "small", V.int 5])
    have q4 := sameNew h4 (.tup [V.str "wide", V.bl true])
    have q5 := sameNew h5 (.tup [V.str "wide"])
    have q6 := sameNew h6 (.lst [V.str "wide", V.int 5])
    have q8 := sameNew h8 (.tup [V.str "wide", V.str "5"])
    have q9 := sameNew hod (.lst [V.ref a1, V.ref a2, V.ref a3, V.ref a4, V.ref a5, V.ref a6, V.non, V.ref a8])
    have q79 := q8.trans q9
    have q69 := q6.trans q79
    have q59 := q5.trans q69
    have q49 := q4.trans q59
    have q39 := q3.trans q49
    have q29 := q2.trans q39
    have c1' := q29 _ _ (upd_same (H := H1) (a := a1) (o := .tup [V.str "narrow", V.int 0]))
    have c2' := q39 _ _ (upd_same (H := upd H1 a1 (.tup [V.str "narrow", V.int 0])) (a := a2) (o := .tup [V.str "wide", V.int 100]))
    have c3' := q49 _ _ (upd_same (H := _) (a := a3) (o := .tup [V.str "small", V.int 5]))
    have c4' := q59 _ _ (upd_same (H := _) (a := a4) (o := .tup [V.str "wide", V.bl true]))
    have c5' := q69 _ _ (upd_same (H := _) (a := a5) (o := .tup [V.str "wide"]))
    have c6' := q79 _ _ (upd_same (H := _) (a := a6) (o := .lst [V.str "wide", V.int 5]))
    have c8' := q9 _ _ (upd_same (H := _) (a := a8) (o := .tup [V.str "wide", V.str "5"]))
    have od' := upd_same (H := (upd (upd (upd (upd (upd (upd (upd H1 a1 (.tup [V.str "narrow", V.int 0])) a2 (.tup [V.str "wide", V.int 100])) a3 (.tup [V.str "small", V.int 5])) a4 (.tup [V.str "wide", V.bl true])) a5 (.tup [V.str "wide"])) a6 (.lst [V.str "wide", V.int 5])) a8 (.tup [V.str "wide", V.str "5"]))) (a := od) (o := .lst [V.ref a1, V.ref a2, V.ref a3, V.ref a4, V.ref a5, V.ref a6, V.non, V.ref a8])
    have q19 := q1.trans q29
    obtain ⟨x1, hx1⟩ := R1.lst
    have n6 : a6 ≠ r := (ne_of_none (q5 _ _ (q4 _ _ (q3 _ _ (q2 _ _ (q1 _ _ hx1))))) h6).symm
    have nod : od ≠ r := (ne_of_none (q8 _ _ (q6 _ _ (q5 _ _ (q4 _ _ (q3 _ _ (q2 _ _ (q1 _ _ hx1))))))) hod).symm
    have R2 := R1.same q19
    have T2 := T1.ext q19
    have rn2 := rn1.ext2 (ExtN.same q19)
    generalize (upd (upd (upd (upd (upd (upd (upd (upd H1 a1 (.tup [V.str "narrow", V.int 0])) a2 (.tup [V.str "wide", V.int 100])) a3 (.tup [V.str "small", V.int 5])) a4 (.tup [V.str "wide", V.bl true])) a5 (.tup [V.str "wide"])) a6 (.lst [V.str "wide", V.int 5])) a8 (.tup [V.str "wide", V.str "5"])) od (.lst [V.ref a1, V.ref a2, V.ref a3, V.ref a4, V.ref a5, V.ref a6, V.non, V.ref a8])) = H2 at c1' c2' c3' c4' c5' c6' c8' od' R2 T2 rn2 ⊢
    clear q1 q2 q3 q4 q5 q6 q8 q9 q79 q69 q59 q49 q39 q29 q19 h1 h2 h3 h4 h5 h6 h8 hod R1 T1 rn1 x1 hx1
    -- the list
    obtain ⟨us, u1, u2, u3⟩ := id rn2
    have hus : (us.map V.ref).length = secs.length := by rw [List.length_map, u2]
    refine ⟨_, rfl, _, rfl, _, rfl, l, _, rfl, SqL.of u1, fun z1 hz1 => ?_⟩
    rw [cut_to (by rw [hus]; omega)]
    have s1 := sameNew hz1 (.lst ((us.map V.ref).take kk))
    have R3 := R2.same s1
    refine ⟨_, rfl, _, rfl, r, sc, ns, od, _, rfl, s1 _ _ od', by show 1 ≤ 8; decide, by show 8 ≤ 1000; decide, nod, R3, fun H3 qi v k3 R3 hv => ?_⟩
    obtain ⟨x2, hx2⟩ := R2.lst
    have nz1 : z1 ≠ r := (ne_of_none hx2 hz1).symm
    have rn3 := (rn2.ext2 (ExtN.same s1)).keep k3 nl (s1 _ _ hx2)
    have T3 : Tabs T H3 := Tabs.keepL (T2.ext s1) (k3.notlst (s1 _ _ hx2))
    have u1' := k3 _ _ (s1 _ _ u1) nl
    have z1' := k3 _ _ (upd_same (H := H2) (a := z1) (o := .lst ((us.map V.ref).take kk))) nz1
    have tup3 : ∀ {b : Addr} {xs : List V}, H2 b = some (.tup xs) → H3 b = some (.tup xs) := fun {b xs} e => k3.notlst (s1 _ _ hx2) _ _ (s1 _ _ e) (fun _ z => nomatch z)
    have b6 := k3 _ _ (s1 _ _ c6') n6
    have u3' : ∀ (i : Nat) (t : Addr) (s : Sec), us[i]? = some t → secs[i]? = some s → H3 t = some (.tup (secV s)) := fun i t s h1 h2 => tup3 (u3 i t s h1 h2)
    have hsb : SecBad H3 v := by
      match qi, hv with
      | 0, hv => obtain rfl := Option.some.inj hv; exact .inr (.inr (.inr ⟨a1, _, _, rfl, tup3 c1', .inl ⟨_, rfl⟩, .inr (by decide +kernel)⟩))
      | 1, hv => obtain rfl := Option.some.inj hv; exact .inr (.inr (.inr ⟨a2, _, _, rfl, tup3 c2', .inl ⟨_, rfl⟩, .inr (by decide +kernel)⟩))
      | 2, hv => obtain rfl := Option.some.inj hv; exact .inr (.inr (.inr ⟨a3, _, _, rfl, tup3 c3', .inl ⟨_, rfl⟩, .inl (by decide +kernel)⟩))
      | 3, hv => obtain rfl := Option.some.inj hv; exact .inr (.inr (.inr ⟨a4, _, _, rfl, tup3 c4', .inr (.inr (.inl ⟨_, rfl⟩)), .inr (by decide +kernel)⟩))
      | 4, hv => obtain rfl := Option.some.inj hv; exact .inr (.inr (.inl ⟨a5, _, rfl, tup3 c5', by decide⟩))
      | 5, hv => obtain rfl := Option.some.inj hv; exact .inr (.inl ⟨a6, _, rfl, b6⟩)
      | 6, hv => obtain rfl := Option.some.inj hv; exact .inl rfl
      | 7, hv => obtain rfl := Option.some.inj hv; exact .inr (.inr (.inr ⟨a8, _, _, rfl, tup3 c8', .inr (.inr (.inr ⟨_, rfl⟩)), .inr (by decide +kernel)⟩))
    clear c1' c2' c3' c4' c5' c6' c8' b6 tup3 hv od' nod n6 u1 u3 R2 T2 rn2 hx2 x2 s1 k3 hz1 nz1 rn3
    refine ⟨by show 1 ≤ sizeLine; decide, fun z2 hz2 => ⟨z1, z2, (us.map V.ref).take kk, [v], rfl, rfl, sameNew hz2 (.lst [v]) _ _ z1', upd_same, Nat.le_trans (m := 1000) (by rw [List.length_take, hus]; show min kk secs.length + 1 ≤ 1000; omega) (by decide), fun z3 hz3 => ?_⟩⟩
    have s2 := (sameNew hz2 (.lst [v])).trans (sameNew hz3 (.lst ((us.map V.ref).take kk ++ [v])))
    refine ⟨_, rfl, _, rfl, _, rfl, l, _, rfl, SqL.of (s2 _ _ u1'), fun z4 hz4 => ?_⟩
    rw [cut_from (by rw [hus]; omega)]
    have s4 := sameNew hz4 (.lst ((us.map V.ref).drop kk))
    refine ⟨z3, z4, (us.map V.ref).take kk ++ [v], (us.map V.ref).drop kk, rfl, rfl, s4 _ _ upd_same, upd_same, Nat.le_trans (m := 1000) (by rw [List.length_append, List.length_take, List.length_drop, hus]; show min kk secs.length + 1 + (secs.length - kk) ≤ 1000; omega) (by decide), fun z5 hz5 => ?_⟩
    have s5 := sameNew hz5 (.lst (((us.map V.ref).take kk ++ [v]) ++ (us.map V.ref).drop kk))
    refine ⟨by show 4 ≤ sizeLine; decide, fun z6 hz6 => ⟨z5, z6, ((us.map V.ref).take kk ++ [v]) ++ (us.map V.ref).drop kk, [V.int 0, V.int 0, V.int 0, V.int 0], rfl, rfl, sameNew hz6 (.lst [V.int 0, V.int 0, V.int 0, V.int 0]) _ _ upd_same, upd_same, Nat.le_trans (m := 1000) (by rw [List.length_append, List.length_append, List.length_take, List.length_drop, hus]; show min kk secs.length + 1 + (secs.length - kk) + 4 ≤ 1000; omega) (by decide), fun z7 hz7 => ?_⟩⟩
    have s6 := sameNew hz6 (.lst [V.int 0, V.int 0, V.int 0, V.int 0])
    have s7 := sameNew hz7 (.lst ((((us.map V.ref).take kk ++ [v]) ++ (us.map V.ref).drop kk) ++ [V.int 0, V.int 0, V.int 0, V.int 0]))
    refine ⟨_, rfl, z7, _, rfl, SqL.of upd_same, fun z8 hz8 => ?_⟩
    have hW : ((((us.map V.ref).take kk ++ [v]) ++ (us.map V.ref).drop kk) ++ [V.int 0, V.int 0, V.int 0, V.int 0]).length = secs.length + 5 := by
      rw [List.length_append, List.length_append, List.length_append, List.length_take, List.length_drop, hus]
      show min kk secs.length + 1 + (secs.length - kk) + 4 = _
      omega
    rw [show (some (5 : Int)) = some ((5 : Nat) : Int) from rfl, cut_to (k := 5) (by rw [hW]; omega)]
    have h5 : (((((us.map V.ref).take kk ++ [v]) ++ (us.map V.ref).drop kk) ++ [V.int 0, V.int 0, V.int 0, V.int 0]).take 5).length = 5 := by rw [List.length_take, hW]; omega
    have hA : (((us.map V.ref).take kk ++ [v]) ++ (us.map V.ref).drop kk).length = secs.length + 1 := by
      rw [List.length_append, List.length_append, List.length_take, List.length_drop, hus]
      show min kk secs.length + 1 + (secs.length - kk) = _
      omega
    have hT : ((us.map V.ref).take kk).length = kk := by rw [List.length_take, hus]; omega
    obtain ⟨w0, w1, w2, w3, w4, hw⟩ : ∃ w0 w1 w2 w3 w4, ((((us.map V.ref).take kk ++ [v]) ++ (us.map V.ref).drop kk) ++ [V.int 0, V.int 0, V.int 0, V.int 0]).take 5 = [w0, w1, w2, w3, w4] := by
      match ((((us.map V.ref).take kk ++ [v]) ++ (us.map V.ref).drop kk) ++ [V.int 0, V.int 0, V.int 0, V.int 0]).take 5, h5 with
      | [w0, w1, w2, w3, w4], _ => exact ⟨w0, w1, w2, w3, w4, rfl⟩
    have hget : ∀ j, j ≤ secs.length → [w0, w1, w2, w3, w4][j]? = (((us.map V.ref).take kk ++ [v]) ++ (us.map V.ref).drop kk)[j]? := fun j hj => by
      rw [← hw, List.getElem?_take_of_lt (by omega), List.getElem?_append_left (by rw [hA]; omega)]
    have hgood : ∀ j, j < kk → ∃ (tt : Addr) (s : Sec), [w0, w1, w2, w3, w4][j]? = some (.ref tt) ∧ H3 tt = some (.tup (secV s)) ∧ 1 ≤ s.2 ∧ s.2 ≤ 99 := fun j hj => by
      obtain ⟨tt, htt⟩ : ∃ t, us[j]? = some t := ⟨_, List.getElem?_eq_getElem (by omega)⟩
      obtain ⟨s, hs⟩ : ∃ s, secs[j]? = some s := ⟨_, List.getElem?_eq_getElem (by omega)⟩
      have := SO.len s (List.mem_of_getElem? hs)
      refine ⟨tt, s, ?_, u3' j tt s htt hs, this.1, this.2⟩
      rw [hget j (by omega), List.append_assoc, List.getElem?_append_left (by rw [hT]; exact hj), List.getElem?_take_of_lt hj]
      exact map_at V.ref htt
    have hodd : [w0, w1, w2, w3, w4][kk]? = some v := by
      rw [hget kk (by omega), List.append_assoc, List.getElem?_append_right (by rw [hT]; exact Nat.le_refl _), hT, Nat.sub_self]
      rfl
    rw [hw]
    have s8 := (s2.trans (s4.trans (s5.trans (s6.trans (s7.trans (sameNew hz8 (.lst [w0, w1, w2, w3, w4])))))))
    have z8' := upd_same (H := (upd (upd (upd (upd (upd (upd H3 z2 (.lst [v])) z3 (.lst ((us.map V.ref).take kk ++ [v]))) z4 (.lst ((us.map V.ref).drop kk))) z5 (.lst (((us.map V.ref).take kk ++ [v]) ++ (us.map V.ref).drop kk))) z6 (.lst [V.int 0, V.int 0, V.int 0, V.int 0])) z7 (.lst ((((us.map V.ref).take kk ++ [v]) ++ (us.map V.ref).drop kk) ++ [V.int 0, V.int 0, V.int 0, V.int 0])))) (a := z8) (o := .lst [w0, w1, w2, w3, w4])
    have R4 := R3.same s8
    have T4 := T3.ext s8
    have u4 := s8 _ _ u1'
    have hgood4 : ∀ j, j < kk → ∃ (tt : Addr) (s : Sec), [w0, w1, w2, w3, w4][j]? = some (.ref tt) ∧ (upd (upd (upd (upd (upd (upd (upd H3 z2 (.lst [v])) z3 (.lst ((us.map V.ref).take kk ++ [v]))) z4 (.lst ((us.map V.ref).drop kk))) z5 (.lst (((us.map V.ref).take kk ++ [v]) ++ (us.map V.ref).drop kk))) z6 (.lst [V.int 0, V.int 0, V.int 0, V.int 0])) z7 (.lst ((((us.map V.ref).take kk ++ [v]) ++ (us.map V.ref).drop kk) ++ [V.int 0, V.int 0, V.int 0, V.int 0]))) z8 (.lst [w0, w1, w2, w3, w4])) tt = some (.tup (secV s)) ∧ 1 ≤ s.2 ∧ s.2 ≤ 99 := fun j hj => (let ⟨tt, s, g1, g2, g3⟩ := hgood j hj; ⟨tt, s, g1, s8 _ _ g2, g3⟩)
    have hsb4 := hsb.same s8
    generalize (upd (upd (upd (upd (upd (upd (upd H3 z2 (.lst [v])) z3 (.lst ((us.map V.ref).take kk ++ [v]))) z4 (.lst ((us.map V.ref).drop kk))) z5 (.lst (((us.map V.ref).take kk ++ [v]) ++ (us.map V.ref).drop kk))) z6 (.lst [V.int 0, V.int 0, V.int 0, V.int 0])) z7 (.lst ((((us.map V.ref).take kk ++ [v]) ++ (us.map V.ref).drop kk) ++ [V.int 0, V.int 0, V.int 0, V.int 0]))) z8 (.lst [w0, w1, w2, w3, w4])) = H4 at z8' R4 T4 u4 hgood4 hsb4 ⊢
    clear s8 s7 s6 s5 s4 s2 hw hget hgood h5 hA hT hW hsb R3 T3 u1' z1' u3' hz2 hz3 hz4 hz5 hz6 hz7 hz8
    refine ⟨z8, _, rfl, SqL.of z8', rfl, w0, _, rfl, w1, _, rfl, w2, _, rfl, w3, _, rfl, w4, _, rfl, rfl, ?_⟩
    -- the lambdas
    refine ⟨T4, fun H5 f1 e5 T5 v1 => ⟨T5, fun H6 f2 e6 T6 v2 => ⟨T6, fun H7 f3 e7 T7 v3 => ⟨by show 3 ≤ sizeLine; decide, fun y1 hy1 => ?_⟩⟩⟩⟩
    have s7 := sameNew hy1 (.lst [V.ref f1, V.ref f2, V.ref f3])
    refine ⟨_, rfl, T7.ext s7, fun H8 f4 e8 T8 v4 => ⟨T8, fun H9 f5 e9 T9 v5 => ⟨by show 2 ≤ sizeLine; decide, fun y2 hy2 => ?_⟩⟩⟩
    have s9 := sameNew hy2 (.lst [V.ref f4, V.ref f5])
    refine ⟨y1, y2, _, _, rfl, rfl, s9 _ _ (e9 _ _ (e8 _ _ upd_same (fun _ z => nomatch z)) (fun _ z => nomatch z)), upd_same, by show 5 ≤ sizeLine; decide, fun y3 hy3 => ?_⟩
    have s10 := sameNew hy3 (.lst ([V.ref f1, V.ref f2, V.ref f3] ++ [V.ref f4, V.ref f5]))
    have e10 := (ExtN.same s9).trans (ExtN.same s10)
    have e9' := e9.trans e10
    have e8' := e8.trans e9'
    have e7' := (ExtN.same s7).trans e8'
    have e6' := e7.trans e7'
    have e5' := e6.trans e6'
    have e4' := e5.trans e5'
    have V1 := v1.ext e5'
    have V2 := v2.ext e6'
    have V3 := v3.ext e7'
    have V4 := v4.ext e9'
    have V5 := v5.ext e10
    have R5 := R4.ext e4'
    have T5 := (T9.ext s9).ext s10
    have u5 := e4' _ _ u4 (fun _ z => nomatch z)
    have y3' := upd_same (H := upd H9 y2 (.lst [V.ref f4, V.ref f5])) (a := y3) (o := .lst ([V.ref f1, V.ref f2, V.ref f3] ++ [V.ref f4, V.ref f5]))
    have hgood5 : ∀ j, j < kk → ∃ (tt : Addr) (s : Sec), [w0, w1, w2, w3, w4][j]? = some (.ref tt) ∧ (upd (upd H9 y2 (.lst [V.ref f4, V.ref f5])) y3 (.lst ([V.ref f1, V.ref f2, V.ref f3] ++ [V.ref f4, V.ref f5]))) tt = some (.tup (secV s)) ∧ 1 ≤ s.2 ∧ s.2 ≤ 99 := fun j hj => (let ⟨tt, s, g1, g2, g3⟩ := hgood4 j hj; ⟨tt, s, g1, e4' _ _ g2 (fun _ z => nomatch z), g3⟩)
    have hsb5 := hsb4.extN e4'
    generalize upd (upd H9 y2 (.lst [V.ref f4, V.ref f5])) y3 (.lst ([V.ref f1, V.ref f2, V.ref f3] ++ [V.ref f4, V.ref f5])) = H10 at V1 V2 V3 V4 V5 R5 T5 u5 y3' hgood5 hsb5 ⊢
    clear e10 e9' e8' e7' e6' e5' e4' s7 s9 s10 e9 e8 e7 e6 e5 v1 v2 v3 v4 v5 hgood4 hsb4 u4 R4 T4 z8' hy1 hy2 hy3
    -- the call
    refine ⟨_, rfl, _, rfl, l, _, rfl, .inl (SqL.of u5), _, _, rfl, ?_⟩
    rw [hus]
    have tk5 : ∀ m, secs.length + 1 = m → (∀ j, j < kk → ∃ (tt : Addr) (s : Sec), ([w0, w1, w2, w3, w4].take m)[j]? = some (.ref tt) ∧ H10 tt = some (.tup (secV s)) ∧ 1 ≤ s.2 ∧ s.2 ≤ 99) ∧ ∃ u, ([w0, w1, w2, w3, w4].take m)[kk]? = some u ∧ SecBad H10 u := fun m hm' => by
      refine ⟨fun j hj => ?_, v, ?_, hsb5⟩
      · rw [List.getElem?_take_of_lt (by omega)]
        exact hgood5 j hj
      · rw [List.getElem?_take_of_lt (by omega)]
        exact hodd
    have shE : Shp 1 (.tuple [.str "error", .str "InvalidRoad", .int ((kk : Nat) : Int)]) := shp_tuple fun d hd => by
      rcases List.mem_cons.mp hd with rfl | hd
      · exact shp_str (by decide +kernel)
      rcases List.mem_cons.mp hd with rfl | hd
      · exact shp_str (by decide +kernel)
      rw [List.mem_singleton.mp hd]
      exact shp_int _
    have hE : PyData.eqv (.tuple [.str "error", .str "InvalidRoad", .int ((kk : Nat) : Int)]) (.tuple [.str "error", .str "InvalidRoad", .int ((kk : Nat) : Int)]) = true := shE.same
    have hlen : secs.length = 1 ∨ secs.length = 2 ∨ secs.length = 3 ∨ secs.length = 4 := by omega
    rcases hlen with h | h | h | h
    all_goals rw [h, if_neg (by decide)]
    · refine ⟨y3, _, _, .ref f2, rfl, rfl, SqL.of y3', rfl, f2, _, fun E => StX.tMakeR C (spRInitX C CI) E (tCons (tVar 4) (tCons (tVar 5) tNil)), rfl, ?_, ?_, ?_, V2, ?_⟩
      · exact lamS2_by (N := nRoadOf) (sc := defScope sRoadOf) (by decide +kernel)
      · exact fun _ _ _ _ _ _ _ => ⟨_, rfl, fun _ => rfl⟩
      · exact fun A' outer' s' H' E' f' c' hr' => StX.pe_makeR MK GI hr' (by rfl) R.mgC (passes_call (takes_of rfl rfl rfl rfl) fun _ _ _ _ h => h) (pa_cons (pv 4) (pa_cons (pv 5) pa_nil))
      refine ⟨_, rfl, _, rfl, fun x dx hx hdx ne => .inr (make_bad (xs := [w0, w1]) (i := kk) (by show kk < 2; omega) (by show 2 ≤ 12; decide) (tk5 2 (by omega)).1 (tk5 2 (by omega)).2 hx hdx ne fun H' d fs s hd hl => ⟨CI, 0, .int ((kk : Nat) : Int), rfl, J0, by decide, .inr ⟨d, fs, rfl, hd⟩, .inr ⟨d, fs, rfl, hd, hl⟩, fun H2 tp s2 htp => ?_⟩)⟩
      refine ⟨_, rfl, by show 3 ≤ sizeLine; decide, fun t3 ht3 => ?_⟩
      have st := sameNew ht3 (.tup [V.str "error", V.str "InvalidRoad", V.int ((kk : Nat) : Int)])
      refine ⟨.tuple [.str "error", .str "InvalidRoad", .int ((kk : Nat) : Int)], .tuple [.str "error", .str "InvalidRoad", .int ((kk : Nat) : Int)], .tup (SqT.of (st _ _ htp)) (.cons (.str _) (.cons (.str _) (.cons (.int _) .nil))), .tup (SqT.of upd_same) (.cons (.str _) (.cons (.str _) (.cons (.int _) .nil))), shE.ok (by decide), shE.ok (by decide), ?_⟩
      rw [hE]
      have sE := (s.trans s2).trans st
      exact k _ (R5.same sE) (T5.ext sE)
    · refine ⟨y3, _, _, .ref f3, rfl, rfl, SqL.of y3', rfl, f3, _, fun E => StX.tMakeR C (spRInitX C CI) E (tCons (tVar 4) (tCons (tVar 5) (tCons (tVar 6) tNil))), rfl, ?_, ?_, ?_, V3, ?_⟩
      · exact lamS2_by (N := nRoadOf) (sc := defScope sRoadOf) (by decide +kernel)
      · exact fun _ _ _ _ _ _ _ => ⟨_, rfl, fun _ => rfl⟩
      · exact fun A' outer' s' H' E' f' c' hr' => StX.pe_makeR MK GI hr' (by rfl) R.mgC (passes_call (takes_of rfl rfl rfl rfl) fun _ _ _ _ h => h) (pa_cons (pv 4) (pa_cons (pv 5) (pa_cons (pv 6) pa_nil)))
      refine ⟨_, rfl, _, rfl, _, rfl, fun x dx hx hdx ne => .inr (make_bad (xs := [w0, w1, w2]) (i := kk) (by show kk < 3; omega) (by show 3 ≤ 12; decide) (tk5 3 (by omega)).1 (tk5 3 (by omega)).2 hx hdx ne fun H' d fs s hd hl => ⟨CI, 0, .int ((kk : Nat) : Int), rfl, J0, by decide, .inr ⟨d, fs, rfl, hd⟩, .inr ⟨d, fs, rfl, hd, hl⟩, fun H2 tp s2 htp => ?_⟩)⟩
      refine ⟨_, rfl, by show 3 ≤ sizeLine; decide, fun t3 ht3 => ?_⟩
      have st := sameNew ht3 (.tup [V.str "error", V.str "InvalidRoad", V.int ((kk : Nat) : Int)])
      refine ⟨.tuple [.str "error", .str "InvalidRoad", .int ((kk : Nat) : Int)], .tuple [.str "error", .str "InvalidRoad", .int ((kk : Nat) : Int)], .tup (SqT.of (st _ _ htp)) (.cons (.str _) (.cons (.str _) (.cons (.int _) .nil))), .tup (SqT.of upd_same) (.cons (.str _) (.cons (.str _) (.cons (.int _) .nil))), shE.ok (by decide), shE.ok (by decide), ?_⟩
      rw [hE]
      have sE := (s.trans s2).trans st
      exact k _ (R5.same sE) (T5.ext sE)
    · refine ⟨y3, _, _, .ref f4, rfl, rfl, SqL.of y3', rfl, f4, _, fun E => StX.tMakeR C (spRInitX C CI) E (tCons (tVar 4) (tCons (tVar 5) (tCons (tVar 6) (tCons (tVar 7) tNil)))), rfl, ?_, ?_, ?_, V4, ?_⟩
      · exact lamS2_by (N := nRoadOf) (sc := defScope sRoadOf) (by decide +kernel)
      · exact fun _ _ _ _ _ _ _ => ⟨_, rfl, fun _ => rfl⟩
      · exact fun A' outer' s' H' E' f' c' hr' => StX.pe_makeR MK GI hr' (by rfl) R.mgC (passes_call (takes_of rfl rfl rfl rfl) fun _ _ _ _ h => h) (pa_cons (pv 4) (pa_cons (pv 5) (pa_cons (pv 6) (pa_cons (pv 7) pa_nil))))
      refine ⟨_, rfl, _, rfl, _, rfl, _, rfl, fun x dx hx hdx ne => .inr (make_bad (xs := [w0, w1, w2, w3]) (i := kk) (by show kk < 4; omega) (by show 4 ≤ 12; decide) (tk5 4 (by omega)).1 (tk5 4 (by omega)).2 hx hdx ne fun H' d fs s hd hl => ⟨CI, 0, .int ((kk : Nat) : Int), rfl, J0, by decide, .inr ⟨d, fs, rfl, hd⟩, .inr ⟨d, fs, rfl, hd, hl⟩, fun H2 tp s2 htp => ?_⟩)⟩
      refine ⟨_, rfl, by show 3 ≤ sizeLine; decide, fun t3 ht3 => ?_⟩
      have st := sameNew ht3 (.tup [V.str "error", V.str "InvalidRoad", V.int ((kk : Nat) : Int)])
      refine ⟨.tuple [.str "error", .str "InvalidRoad", .int ((kk : Nat) : Int)], .tuple [.str "error", .str "InvalidRoad", .int ((kk : Nat) : Int)], .tup (SqT.of (st _ _ htp)) (.cons (.str _) (.cons (.str _) (.cons (.int _) .nil))), .tup (SqT.of upd_same) (.cons (.str _) (.cons (.str _) (.cons (.int _) .nil))), shE.ok (by decide), shE.ok (by decide), ?_⟩
      rw [hE]
      have sE := (s.trans s2).trans st
      exact k _ (R5.same sE) (T5.ext sE)
    · refine ⟨y3, _, _, .ref f5, rfl, rfl, SqL.of y3', rfl, f5, _, fun E => StX.tMakeR C (spRInitX C CI) E (tCons (tVar 4) (tCons (tVar 5) (tCons (tVar 6) (tCons (tVar 7) (tCons (tVar 8) tNil))))), rfl, ?_, ?_, ?_, V5, ?_⟩
      · exact lamS2_by (N := nRoadOf) (sc := defScope sRoadOf) (by decide +kernel)
      · exact fun _ _ _ _ _ _ _ => ⟨_, rfl, fun _ => rfl⟩
      · exact fun A' outer' s' H' E' f' c' hr' => StX.pe_makeR MK GI hr' (by rfl) R.mgC (passes_call (takes_of rfl rfl rfl rfl) fun _ _ _ _ h => h) (pa_cons (pv 4) (pa_cons (pv 5) (pa_cons (pv 6) (pa_cons (pv 7) (pa_cons (pv 8) pa_nil)))))
      refine ⟨_, rfl, _, rfl, _, rfl, _, rfl, _, rfl, fun x dx hx hdx ne => .inr (make_bad (xs := [w0, w1, w2, w3, w4]) (i := kk) (by show kk < 5; omega) (by show 5 ≤ 12; decide) (tk5 5 (by omega)).1 (tk5 5 (by omega)).2 hx hdx ne fun H' d fs s hd hl => ⟨CI, 0, .int ((kk : Nat) : Int), rfl, J0, by decide, .inr ⟨d, fs, rfl, hd⟩, .inr ⟨d, fs, rfl, hd, hl⟩, fun H2 tp s2 htp => ?_⟩)⟩
      refine ⟨_, rfl, by show 3 ≤ sizeLine; decide, fun t3 ht3 => ?_⟩
      have st := sameNew ht3 (.tup [V.str "error", V.str "InvalidRoad", V.int ((kk : Nat) : Int)])
      refine ⟨.tuple [.str "error", .str "InvalidRoad", .int ((kk : Nat) : Int)], .tuple [.str "error", .str "InvalidRoad", .int ((kk : Nat) : Int)], .tup (SqT.of (st _ _ htp)) (.cons (.str _) (.cons (.str _) (.cons (.int _) .nil))), .tup (SqT.of upd_same) (.cons (.str _) (.cons (.str _) (.cons (.int _) .nil))), shE.ok (by decide), shE.ok (by decide), ?_⟩
      rw [hE]
      have sE := (s.trans s2).trans st
      exact k _ (R5.same sE) (T5.ext sE)
end
end Sl

set_option Elab.async false
set_option linter.all false
set_option maxRecDepth 100000
set_option maxHeartbeats 2000000
namespace L2
open PySem PySem.Spec PyProof.Rows
/-- a def that raises nothing, and one that may: either promise -/
theorem FnOk.orX {P : Program} {w : World} {K : PySem.W.Frag} {mg : Str → Option Value} {base : Heap} {CX : CXT} {k : Nat} {f : Addr} {fd : FuncData} {ps : List Str} {sp sp' : Sp} (F : FnOk P w K mg base CX0 k f fd ps sp) (G : FnOk P w K mg base CX k f fd ps sp') :
    FnOk P w K mg base CX k f fd ps (fun vs H Q E => sp vs H Q E ∨ sp' vs H Q E) where
  len := fun vs H Q E h => h.elim (F.len vs H Q E) (G.len vs H Q E)
  run := fun A outer s H args us vs Q E hr e0 hb hv h => by
    rcases h with h | h
    · refine codeAny_mono (F.run A outer s H args us vs Q E hr e0 hb hv h) fun r s' z => ?_
      cases r with
      | ok f => cases f <;> exact z
      | error e => exact z.elim
    · exact G.run A outer s H args us vs Q E hr e0 hb hv h
theorem FnR.orX {P : Program} {w : World} {K : PySem.W.Frag} {mg : Str → Option Value} {base : Heap} {CX : CXT} {k : Nat} {f : Addr} {sp sp' : Sp} (F : FnR P w K mg base CX0 k f sp) (G : FnR P w K mg base CX k f sp') :
    FnR P w K mg base CX k f (fun vs H Q E => sp vs H Q E ∨ sp' vs H Q E) := fun A outer s H us vs Q E hr e0 hv h => by
  rcases h with h | h
  · refine codeAny_mono (F A outer s H us vs Q E hr e0 hv h) fun r s' z => ?_
    cases r with
    | ok f => cases f <;> exact z
    | error e => exact z.elim
  · exact G A outer s H us vs Q E hr e0 hv h
end L2
namespace Sl
open PySem PySem.Spec L2 OwnR LamX
theorem kinds_app (a b : List Sec) : kindsL (a ++ b) = kindsL a ++ kindsL b := by unfold kindsL; rw [List.flatMap_append]
theorem kinds_runs (bs : List Bool) : kindsL (runsOf bs) = bs := by
  have key : ∀ (l : List Bool) (acc : List Sec), kindsL (l.foldl rstep acc) = kindsL acc ++ l := by
    intro l
    induction l with
    | nil => intro acc; simp
    | cons b r ih =>
      intro acc
      rw [List.foldl_cons, ih]
      have e : kindsL (rstep acc b) = kindsL acc ++ [b] := by
        unfold rstep
        cases hl : acc.getLast? with
        | none =>
          have hl2 := List.getLast?_eq_none_iff.mp hl
          subst hl2
          unfold kindsL
          simp
        | some q =>
          obtain ⟨k, n⟩ := q
          obtain ⟨pre, rfl⟩ := List.getLast?_eq_some_iff.mp hl
          dsimp only
          split
          · rename_i hk
            rw [List.dropLast_concat, kinds_app, kinds_app]
            unfold kindsL
            simp [List.replicate_succ', hk]
          · rw [kinds_app]
            unfold kindsL
            simp
      rw [e, List.append_assoc]
      rfl
  have := key bs []
  simpa [runsOf, kindsL] using this
end Sl
namespace Sl
open PySem PySem.Spec L2 OwnR LamX
theorem rstep_last (acc : List (Bool × Nat)) (b : Bool) : ∃ n, (rstep acc b).getLast? = some (b, n) := by
  unfold rstep
  split
  · exact ⟨1, rfl⟩
  · rename_i k n h
    split
    · rename_i e
      exact ⟨n + 1, by rw [List.getLast?_append, e]; rfl⟩
    · exact ⟨1, by rw [List.getLast?_append]; rfl⟩
theorem runsOf_bound (bs : List Bool) : ∀ s ∈ runsOf bs, 1 ≤ s.2 ∧ s.2 ≤ bs.length := by
  have h : ∀ (l : List Bool) (acc : List (Bool × Nat)) (m : Nat), (∀ s ∈ acc, 1 ≤ s.2 ∧ s.2 ≤ m) → ∀ s ∈ l.foldl rstep acc, 1 ≤ s.2 ∧ s.2 ≤ m + l.length := by
    intro l
    induction l with
    | nil => intro acc m h; simpa using h
    | cons b r ih =>
      intro acc m h s hs
      have h2 : ∀ s ∈ rstep acc b, 1 ≤ s.2 ∧ s.2 ≤ m + 1 := by
        intro s hs
        unfold rstep at hs
        split at hs
        · rw [List.mem_singleton.mp hs]
          exact ⟨Nat.le_refl _, by omega⟩
        · rename_i k n e
          have he := h (k, n) (List.mem_of_getLast? e)
          split at hs
          · rcases List.mem_append.mp hs with hs | hs
            · have := h s ((List.dropLast_sublist acc).subset hs)
              omega
            · rw [List.mem_singleton.mp hs]
              exact ⟨by show 1 ≤ n + 1; omega, by show n + 1 ≤ m + 1; have := he.2; simp at this; omega⟩
          · rcases List.mem_append.mp hs with hs | hs
            · have := h s hs
              omega
            · rw [List.mem_singleton.mp hs]
              exact ⟨Nat.le_refl _, by show 1 ≤ m + 1; omega⟩
      have := ih (rstep acc b) (m + 1) h2 s hs
      rw [List.length_cons]
      omega
  have := h bs [] 0 (fun s hs => nomatch hs)
  simpa [runsOf] using this
theorem runsOf_ne {bs : List Bool} (h : bs ≠ []) : runsOf bs ≠ [] := by
  obtain ⟨r, x, rfl⟩ : ∃ r x, bs = r ++ [x] := ⟨bs.dropLast, bs.getLast h, (List.dropLast_concat_getLast h).symm⟩
  rw [runsOf_snoc]
  intro z
  obtain ⟨n, hn⟩ := rstep_last (runsOf r) x
  rw [z] at hn
  cases hn
def rc : Option Bool → List Bool → Nat
  | _, [] => 0
  | p, b :: r => (if p = some b then 0 else 1) + rc (some b) r
theorem rc_le : ∀ (p : Option Bool) (l : List Bool), rc p l ≤ rc none l ∧ rc none l ≤ rc p l + 1
  | _, [] => ⟨Nat.le_refl _, Nat.zero_le _⟩
  | p, b :: r => by
    show (if p = some b then 0 else 1) + rc (some b) r ≤ (if (none : Option Bool) = some b then 0 else 1) + rc (some b) r ∧ (if (none : Option Bool) = some b then 0 else 1) + rc (some b) r ≤ (if p = some b then 0 else 1) + rc (some b) r + 1
    rw [if_neg (show ¬ ((none : Option Bool) = some b) from fun z => nomatch z)]
    split <;> omega
def lastK (p : Option Bool) : List Bool → Option Bool
  | [] => p
  | b :: r => lastK (some b) r
theorem rc_app : ∀ (p : Option Bool) (a b : List Bool), rc p (a ++ b) = rc p a + rc (lastK p a) b
  | p, [], b => by show rc p b = 0 + rc p b; omega
  | p, x :: a, b => by
    show (if p = some x then 0 else 1) + rc (some x) (a ++ b) = (if p = some x then 0 else 1) + rc (some x) a + rc (lastK (some x) a) b
    rw [rc_app (some x) a b]
    omega
theorem rc_pos {l : List Bool} (h : l ≠ []) : 1 ≤ rc none l := by
  cases l with
  | nil => exact absurd rfl h
  | cons b r =>
    show 1 ≤ (if (none : Option Bool) = some b then 0 else 1) + rc (some b) r
    rw [if_neg (by intro z; cases z)]
    omega
theorem rc_sub (a b : List Bool) : rc none a ≤ rc none (a ++ b) ∧ rc none b ≤ rc none (a ++ b) := by
  rw [rc_app]
  have := rc_le (lastK none a) b
  by_cases h : a = []
  · subst h
    show 0 ≤ _ ∧ rc none b ≤ 0 + rc none b
    omega
  · have := rc_pos h
    omega
theorem rc_cat (a b : List Bool) : rc none (a ++ b) ≤ rc none a + rc none b := by
  rw [rc_app]
  have := rc_le (lastK none a) b
  omega
theorem rc_rep (p : Option Bool) (b : Bool) : ∀ n, rc p (List.replicate n b) ≤ 1
  | 0 => Nat.zero_le _
  | n + 1 => by
    rw [List.replicate_succ]
    show (if p = some b then 0 else 1) + rc (some b) (List.replicate n b) ≤ 1
    have key : ∀ m, rc (some b) (List.replicate m b) = 0 := by
      intro m
      induction m with
      | zero => rfl
      | succ m ih =>
        rw [List.replicate_succ]
        show (if some b = some b then 0 else 1) + rc (some b) (List.replicate m b) = 0
        rw [if_pos rfl, ih]
    rw [key]
    split <;> omega
theorem rc_kinds : ∀ secs : List Sec, rc none (kindsL secs) ≤ secs.length
  | [] => Nat.le_refl _
  | s :: r => by
    have e : kindsL (s :: r) = List.replicate s.2 s.1 ++ kindsL r := rfl
    rw [e, List.length_cons]
    have h1 := rc_cat (List.replicate s.2 s.1) (kindsL r)
    have h2 := rc_rep none s.1 s.2
    have h3 := rc_kinds r
    omega
theorem runs_rc (l : List Bool) : (runsOf l).length = rc none l := by
  have key : ∀ (l : List Bool) (acc : List Sec), (l.foldl rstep acc).length = acc.length + rc (acc.getLast?.map (·.1)) l := by
    intro l
    induction l with
    | nil => intro acc; rfl
    | cons b r ih =>
      intro acc
      rw [List.foldl_cons, ih]
      show _ = acc.length + ((if acc.getLast?.map (·.1) = some b then 0 else 1) + rc (some b) r)
      unfold rstep
      cases hl : acc.getLast? with
      | none =>
        have hl2 := List.getLast?_eq_none_iff.mp hl
        subst hl2
        dsimp only
        rw [if_neg (by intro z; cases z)]
        simp
      | some q =>
        obtain ⟨k, n⟩ := q
        obtain ⟨pre, rfl⟩ := List.getLast?_eq_some_iff.mp hl
        dsimp only
        by_cases hk : k = b
        · subst hk
          rw [if_pos rfl, List.dropLast_concat]
          simp
        · rw [if_neg hk, if_neg (by intro z; exact hk (by simpa using z))]
          simp
          omega
  have := key l []
  simpa [runsOf] using this
theorem kinds_most {secs : List Sec} {m n : Nat} (h : secs.length ≤ m) (hn : ∀ s ∈ secs, s.2 ≤ n) : (kindsL secs).length ≤ m * n := by
  have key : ∀ l : List Sec, (∀ s ∈ l, s.2 ≤ n) → (kindsL l).length ≤ l.length * n := by
    intro l
    induction l with
    | nil => intro _; exact Nat.zero_le _
    | cons s r ih =>
      intro hn
      have e : kindsL (s :: r) = List.replicate s.2 s.1 ++ kindsL r := rfl
      rw [e, List.length_append, List.length_replicate, List.length_cons, Nat.add_mul]
      have h1 := hn s List.mem_cons_self
      have h2 := ih fun z hz => hn z (List.mem_cons_of_mem _ hz)
      omega
  exact Nat.le_trans (key secs hn) (Nat.mul_le_mul_right n h)
theorem secsOk_runs2 {bs : List Bool} (h1 : 1 ≤ bs.length) (h2 : bs.length ≤ 99) (h3 : (runsOf bs).length ≤ 12) : SecsOk (runsOf bs) :=
  ⟨runsOf_ne fun z => by rw [z] at h1; simp at h1, h3, fun s hs => let ⟨a, b⟩ := runsOf_bound bs s hs; ⟨a, by omega⟩⟩
end Sl
namespace Sl
open PySem PySem.Spec L2 OwnR LamX
theorem kinds_bit {a b : Bool} (h : a = b) : (!decide (V.bl a = V.bl b)) = false := by subst h; simp
end Sl
namespace Sl
open PySem PySem.Spec L2 OwnR LamX
/-- o.m(), by a positional promise -/
theorem pe_methR0 {X : Cx} {CX : CXT} {k : Nat} {C f : Addr} {m : Str} {sp : Sp} {E : XK} {o : Expr} {ta : TE} {apos pos : Pos} {pl : Sem Bool} (he : PE X o ta) (c : Cls X.K C) (hm : Meth X.K C m f)
    (F : FnR X.prog X.w X.K X.mg X.base CX k f sp) (hr : Room k X.A) (hx : Passes CX X E)
    (ht : eval (.Call (.Attribute o m apos) [] [] pos) X.env = (do
      let ov ← eval o X.env
      standAt apos.atName
      let (f, first) ← holding [ov] (getMethod ov m pl)
      callWith pos f first (backTo pos (starEach [] X.env)) (backToKw pos (keywordEach [] X.env))) := by rfl) :
    PE X (.Call (.Attribute o m apos) [] [] pos) (tMethR C m sp E ta tNil) := by
  refine ⟨fun pins s σ H Q I h => ?_⟩
  refine PySem.W.methodCall_KW (pl := pl) (thn (he.run pins s σ H _ I h) fun u s1 ⟨x, H1, I1, rx, a, dx, fs, ex, ea, l, q⟩ => ?_) ht
  subst ex
  obtain rfl : u = Value.ref a := rx
  refine getmeth_ok I1 ea c hm l ?_
  exact PySem.W.callWith_K0 (first := [.ref a]) I1.kIn hm.kp (wpAny_call (run_fnR (us := [.ref a]) (vs := [.ref a]) F hr hx I1 (.cons rfl .nil) q))
/-! ### what may be asked of a road -/
def spWidJ (C CS : Addr) : Sp := fun vs H Q E => spWid C vs H Q E ∨ spWidX C CS vs H Q E
def spRGetX (C CN : Addr) : Sp := fun vs H Q E => spRGet C vs H Q E ∨ spRGetU C CN vs H Q E
def spOfX (C CI : Addr) : Sp := fun vs H Q E => spOfUnits C vs H Q E ∨ spOfUnitsU C CI vs H Q E
/-! ### runs and changes -/
theorem runs_step (l : List Bool) (a b : Bool) : (runsOf (l ++ [a] ++ [b])).length = (runsOf (l ++ [a])).length + if a = b then 0 else 1 := by
  rw [runsOf_snoc (l ++ [a]) b]
  obtain ⟨n, hn⟩ : ∃ n, (runsOf (l ++ [a])).getLast? = some (a, n) := by
    rw [runsOf_snoc]
    exact rstep_last _ _
  obtain ⟨pre, e⟩ := List.getLast?_eq_some_iff.mp hn
  unfold rstep
  rw [hn]
  dsimp only
  by_cases h : a = b
  · rw [if_pos h, if_pos h, e, List.dropLast_concat, List.length_append, List.length_append]
    rfl
  · rw [if_neg h, if_neg h, List.length_append]
    rfl
theorem take_snoc {α : Type} {l : List α} {i : Nat} {x : α} (h : l[i]? = some x) : l.take (i + 1) = l.take i ++ [x] := by
  rw [List.take_add_one, h]
  rfl
theorem runs_grow {bs : List Bool} {i : Nat} {a b : Bool} (h1 : bs[i]? = some a) (h2 : bs[i + 1]? = some b) : (runsOf (bs.take (i + 2))).length = (runsOf (bs.take (i + 1))).length + if a = b then 0 else 1 := by
  rw [take_snoc h2, take_snoc h1]
  exact runs_step _ _ _
theorem runs_one {bs : List Bool} (h : 1 ≤ bs.length) : (runsOf (bs.take 1)).length = 1 := by
  match bs, h with
  | b :: r, _ => rfl
/-! ### texts of units -/
theorem strOk_units {u : Str} {bs : List Bool} (h : u.cps.toList = bs.map letterC) : PyData.strOk u = true := by
  unfold PyData.strOk
  rw [← Array.all_toList, h, List.all_map]
  exact List.all_eq_true.mpr fun b _ => by cases b <;> decide
theorem strOk_kind (b : Bool) : PyData.strOk (kindS b) = true := by cases b <;> decide +kernel
theorem has_wide (secs : List Sec) (h : ∀ s ∈ secs, 1 ≤ s.2) : decide (("wide" : Str) ∈ secs.map fun s => kindS s.1) = decide (119 ∈ unitsL secs) := by
  rw [decide_eq_decide]
  unfold unitsL
  rw [List.mem_map, List.mem_flatMap]
  constructor
  · rintro ⟨s, hs, e⟩
    refine ⟨s, hs, List.mem_replicate.mpr ⟨by have := h s hs; omega, ?_⟩⟩
    cases hb : s.1 with
    | true => rfl
    | false => rw [hb] at e; exact absurd e (by decide +kernel)
  · rintro ⟨s, hs, e⟩
    refine ⟨s, hs, ?_⟩
    have e2 := (List.mem_replicate.mp e).2
    cases hb : s.1 with
    | true => rfl
    | false => rw [hb] at e2; exact absurd e2 (by decide)
theorem has_n (secs : List Sec) : decide (("n" : Str) ∈ secs.map fun s => kindS s.1) = false := by
  refine decide_eq_false fun z => ?_
  obtain ⟨s, hs, e⟩ := List.mem_map.mp z
  cases hb : s.1 <;> rw [hb] at e <;> exact absurd e (by decide +kernel)
/-! ### sections as data -/
def secD (s : Sec) : PyData := .tuple [.str (kindS s.1), .int ((s.2 : Nat) : Int)]
theorem dp_sec {K : PySem.W.Frag} {H : Hp} {t : Addr} {s : Sec} (h : H t = some (.tup (secV s))) : Dp K H (.ref t) (secD s) := .tup (SqT.of h) (.cons (.str _) (.cons (.int _) .nil))
theorem shp_sec (s : Sec) : Shp 1 (secD s) := shp_tuple fun d hd => by
  rcases List.mem_cons.mp hd with rfl | hd
  · exact shp_str (strOk_kind _)
  · rw [List.mem_singleton.mp hd]
    exact shp_int _
theorem dp_secs {K : PySem.W.Frag} {H : Hp} {ts : List Addr} {secs : List Sec} (h2 : ts.length = secs.length) (h3 : ∀ (i : Nat) (t : Addr) (s : Sec), ts[i]? = some t → secs[i]? = some s → H t = some (.tup (secV s))) : DpAll K H (ts.map V.ref) (secs.map secD) :=
  dp_refs secD h2 fun i a x e1 e2 => dp_sec (h3 i a x e1 e2)
theorem shp_secs (secs : List Sec) : Shp 2 (.tuple (secs.map secD)) := shp_tuple fun d hd => by
  obtain ⟨s, _, rfl⟩ := List.mem_map.mp hd
  exact shp_sec s
/-! ### widened -/
theorem widen_self (secs : List Sec) : widen secs [] = secs := by
  refine List.ext_getElem? fun i => ?_
  cases h : secs[i]? with
  | none =>
    have := List.getElem?_eq_none_iff.mp h
    exact List.getElem?_eq_none_iff.mpr (by rw [widen_len]; exact this)
  | some s =>
    rw [widen_get h]
    simp
theorem widen_tail {secs : List Sec} {k : Nat} {s : Sec} (hk : secs[k]? = some s) : (widen (widen (widen secs [0, k]) [k]) []).drop 1 = (secs.take k ++ [(true, s.2)] ++ secs.drop (k + 1)).drop 1 := by
  rw [widen_self]
  have hlt : k < secs.length := (List.getElem?_eq_some_iff.mp hk).1
  refine List.ext_getElem? fun i => ?_
  rw [List.getElem?_drop, List.getElem?_drop]
  have hT : (secs.take k).length = k := by rw [List.length_take]; omega
  cases h : secs[1 + i]? with
  | none =>
    have hl := List.getElem?_eq_none_iff.mp h
    rw [List.getElem?_eq_none_iff.mpr (by rw [widen_len, widen_len]; exact hl), List.getElem?_eq_none_iff.mpr]
    rw [List.length_append, List.length_append, hT, List.length_drop]
    show k + 1 + (secs.length - (k + 1)) ≤ 1 + i
    omega
  | some x =>
    rw [widen_get (widen_get h)]
    rcases Nat.lt_trichotomy (1 + i) k with lt | eq | gt
    · rw [List.append_assoc, List.getElem?_append_left (by rw [hT]; exact lt), List.getElem?_take_of_lt lt, h]
      have e1 : decide (1 + i ∈ [k]) = false := decide_eq_false fun z => by rw [List.mem_singleton] at z; omega
      have e2 : decide (1 + i ∈ [0, k]) = false := decide_eq_false fun z => by simp at z; omega
      rw [e1, e2]
      rfl
    · subst eq
      rw [List.append_assoc, List.getElem?_append_right (by rw [hT]; exact Nat.le_refl _), hT, Nat.sub_self]
      rw [hk] at h
      cases h
      have e1 : decide (1 + i ∈ [1 + i]) = true := decide_eq_true (List.mem_singleton.mpr rfl)
      rw [e1]
      rfl
    · rw [List.getElem?_append_right (by rw [List.length_append, hT]; exact gt), List.length_append, hT, List.getElem?_drop]
      show _ = secs[k + 1 + (1 + i - (k + 1))]?
      rw [show k + 1 + (1 + i - (k + 1)) = 1 + i by omega, h]
      have e1 : decide (1 + i ∈ [k]) = false := decide_eq_false fun z => by rw [List.mem_singleton] at z; omega
      have e2 : decide (1 + i ∈ [0, k]) = false := decide_eq_false fun z => by simp at z; omega
      rw [e1, e2]
      rfl
/-- "nw", six or seven times -/
theorem nw_runs {n : Nat} (h : n = 6 ∨ n = 7) : runsOf (List.replicate n [false, true]).flatten = (List.replicate n [(false, 1), (true, 1)]).flatten := by
  rcases h with rfl | rfl <;> decide +kernel
end Sl

set_option Elab.async false
set_option linter.all false
set_option maxRecDepth 100000
set_option maxHeartbeats 2000000
namespace Sl
open PySem PySem.Spec L2 OwnR LamX
/-! ### the law's steps: what is due and what is told -/
section
variable {K : PySem.W.Frag} {CR CE CI c1 CS c3 CN : Addr} {σ : L2.St} {H : Hp} {Q : VK}
abbrev rLen (K : PySem.W.Frag) : List V → Hp → VK → Prop := fun xs H Q => ∃ p ys, xs = [V.ref p] ∧ (SqL K H p ys ∨ SqT K H p ys) ∧ Q (V.int ((ys.length : Nat) : Int)) H
abbrev rLenS : List V → Hp → VK → Prop := fun xs H Q => ∃ z, xs = [V.str z] ∧ z.length ≤ sizeLine ∧ Q (V.int ((z.length : Nat) : Int)) H
abbrev rTupOf (K : PySem.W.Frag) : List V → Hp → VK → Prop := fun xs H Q => ∃ p ys, xs = [V.ref p] ∧ ((SqL K H p ys ∧ ∀ l, H l = none → Q (V.ref l) (upd H l (.tup ys))) ∨ (SqT K H p ys ∧ Q (V.ref p) H))
abbrev rRepN (K : PySem.W.Frag) : R2 := fun x y H Q => ∃ (l : Addr) (n : Nat) (xs : List V), x = .ref l ∧ y = .int ((n : Nat) : Int) ∧ SqT K H l xs ∧ xs ≠ [] ∧ 1 ≤ n ∧ n ≤ 1000 ∧ xs.length ≤ 1000 ∧ (n = 1 → Q (.ref l) H) ∧ (2 ≤ n → ∀ p, H p = none → Q (.ref p) (upd H p (.tup (List.replicate n xs).flatten)))
abbrev rLe : R2 := rI0 fun i j => V.bl (decide (i ≤ j))
abbrev rLt : R2 := rI0 fun i j => V.bl (decide (i < j))
def Num3 (v : V) : Prop := (∃ i, v = .int i) ∨ v = .non ∨ ∃ b, v = .bl b
theorem Num3.plain {v : V} (h : Num3 v) : Plain v := h.elim .inl fun h => h.elim (fun h => .inr (.inl h)) fun h => .inr (.inr (.inl h))
theorem rf_no (t : Addr) (u : Str) {m : Str} (h1 : ¬ m = "_sections") (h2 : ¬ m = "_units") : (rf t u).lookup m = none := by
  unfold rf
  rw [lookup_putF, if_neg h2, lookup_putF, if_neg h1]
  rfl
/-- isinstance(v, int) and not isinstance(v, bool) and lo <= v .. hi -/
theorem good_rd {i : Nat} {v : V} {o : R2} {th : TE} {lo hi : Int} (hσ : σ[i]? = some (some v)) (hv : Num3 v)
    (ho : ∀ n, v = .int n → ∀ Q' : VK, Q' (.bl (decide (n ≤ hi))) H → th σ H fun y H4 => o (.int n) y H4 Q') (hq : Q (.bl (numB v lo hi)) H) :
    tAndV (tCB (rIsi K) (tCons (tVar i) (tCons (tC (.ty "int")) tNil))) (tAndV (tNotV (tCB (rIsi K) (tCons (tVar i) (tCons (tC (.ty "bool")) tNil)))) (tChain rLe o (tC (.int lo)) (tVar i) th)) σ H Q := by
  rcases hv with ⟨n, rfl⟩ | rfl | ⟨b, rfl⟩
  · refine ⟨_, hσ, _, _, _, _, true, rfl, .ty _, .base (.int n), kit_ty (by decide +kernel), true, rfl, iteT ?_⟩
    refine ⟨_, hσ, _, _, _, _, false, rfl, .ty _, .base (.int n), kit_ty (by decide +kernel), false, rfl, true, rfl, iteT ?_⟩
    refine ⟨_, hσ, lo, n, rfl, rfl, _, rfl, ?_⟩
    have hq : Q (.bl (decide (lo ≤ n) && decide (n ≤ hi))) H := hq
    by_cases h1 : lo ≤ n
    · rw [decide_eq_true h1] at hq ⊢
      exact iteT (ho n rfl Q (by simpa using hq))
    · rw [decide_eq_false h1] at hq ⊢
      exact iteF (by simpa using hq)
  · exact ⟨_, hσ, _, _, _, _, false, rfl, .ty _, .base .non, kit_ty (by decide +kernel), false, rfl, iteF hq⟩
  · refine ⟨_, hσ, _, _, _, _, true, rfl, .ty _, .base (.bl b), kit_ty (by decide +kernel), true, rfl, iteT ?_⟩
    exact ⟨_, hσ, _, _, _, _, true, rfl, .ty _, .base (.bl b), kit_ty (by decide +kernel), true, rfl, false, rfl, iteF hq⟩
theorem num_int {v : V} {lo hi : Int} (h : numB v lo hi = true) : ∃ n, v = .int n ∧ lo ≤ n ∧ n ≤ hi := by
  cases v with
  | int n =>
    have h : (decide (lo ≤ n) && decide (n ≤ hi)) = true := h
    rw [Bool.and_eq_true] at h
    exact ⟨n, rfl, of_decide_eq_true h.1, of_decide_eq_true h.2⟩
  | _ => exact absurd h (by intro z; cases z)
theorem num_nat {v : V} {lo : Nat} {hi : Int} (h : numB v ((lo : Nat) : Int) hi = true) : ∃ n : Nat, v = .int ((n : Nat) : Int) ∧ lo ≤ n ∧ ((n : Nat) : Int) ≤ hi := by
  obtain ⟨n, rfl, h1, h2⟩ := num_int h
  refine ⟨n.toNat, ?_, ?_, ?_⟩
  · rw [Int.toNat_of_nonneg (by omega)]
  · omega
  · omega
/-- a tuple that tells an error -/
def ErrY (H : Hp) (x : V) (es : List V) : Prop := ∃ t, x = .ref t ∧ H t = some (.tup es)
theorem ErrY.ext {H H' : Hp} {x : V} {es : List V} (h : ErrY H x es) (e : ExtN H H') : ErrY H' x es := let ⟨t, h1, h2⟩ := h; ⟨t, h1, ExtN.tup e h2⟩
/-- a tuple of sections -/
def SecY (H : Hp) (x : V) (secs : List Sec) : Prop := ∃ t, x = .ref t ∧ SecsAt H t secs
theorem SecY.ext {H H' : Hp} {x : V} {secs : List Sec} (h : SecY H x secs) (e : ExtN H H') : SecY H' x secs := let ⟨t, h1, h2⟩ := h; ⟨t, h1, h2.ext e⟩
abbrev eNum : List V := [.str "error", .str "InvalidNumber"]
abbrev eRoad : List V := [.str "error", .str "InvalidRoad", .int 12]
abbrev eSec (v : V) : List V := [.str "error", .str "UnknownSection", v]
/-! #### a unit -/
def UnitY (secs : List Sec) (v : V) (H : Hp) (x : V) : Prop :=
  (∃ (n : Nat) (b : Bool), v = .int ((n : Nat) : Int) ∧ (kindsL secs)[n]? = some b ∧ x = .str (kindS b)) ∨ (numB v 0 (((unitsL secs).length : Int) - 1) = false ∧ ErrY H x eNum)
theorem UnitY.ext {secs : List Sec} {v : V} {H H' : Hp} {x : V} (h : UnitY secs v H x) (e : ExtN H H') : UnitY secs v H' x := h.elim .inl fun h => .inr ⟨h.1, h.2.ext e⟩
theorem unit_num {secs : List Sec} {n : Nat} {b : Bool} (h : (kindsL secs)[n]? = some b) : numB (.int ((n : Nat) : Int)) 0 (((unitsL secs).length : Int) - 1) = true := by
  have h1 := (List.getElem?_eq_some_iff.mp h).1
  rw [kinds_len] at h1
  show (decide ((0 : Int) ≤ (n : Int)) && decide ((n : Int) ≤ ((unitsL secs).length : Int) - 1)) = true
  rw [decide_eq_true (by omega), decide_eq_true (by omega)]
  rfl
theorem unit_due {u : Str} {v : V} {secs : List Sec} (hu : u.cps.toList = unitsL secs) (hz : u.length ≤ sizeLine) (h5 : σ[5]? = some (some (.str u))) (h8 : σ[8]? = some (some v)) (h9 : σ[9]? = some (some (.bl (numB v 0 (((unitsL secs).length : Int) - 1)))))
    (k : ∀ x H', Same H H' → UnitY secs v H' x → Q x H') :
    tIf (tB (tVar 9)) (tDGet (tDisp [(tC (.str "n"), tC (.str "narrow")), (tC (.str "w"), tC (.str "wide"))]) (tOp rIxS (tVar 5) (tVar 8))) (tTup (tCons (tC (.str "error")) (tCons (tC (.str "InvalidNumber")) tNil))) σ H Q := by
  refine ⟨_, h9, _, rfl, ?_⟩
  cases hg : numB v 0 (((unitsL secs).length : Int) - 1) with
  | false => exact iteF ⟨by show 2 ≤ sizeLine; decide, fun t ht => k _ _ (sameNew ht (.tup [V.str "error", V.str "InvalidNumber"])) (.inr ⟨hg, t, rfl, upd_same⟩)⟩
  | true =>
    obtain ⟨n, rfl, h1, h2⟩ := num_nat (lo := 0) hg
    obtain ⟨b, hb⟩ : ∃ b, (kindsL secs)[n]? = some b := ⟨_, List.getElem?_eq_getElem (by rw [kinds_len]; omega)⟩
    have hc : u.cps.toList[n]? = some (letterC b) := by rw [hu, units_kinds, List.getElem?_map, hb]; rfl
    refine iteT fun p hp => ⟨upd_same, [((Sum.inr ("n" : Str) : Key), V.str "narrow"), ((Sum.inr ("w" : Str) : Key), V.str "wide")], rfl, by show 2 ≤ 15; decide, ?_⟩
    refine ⟨_, h5, _, h8, u, _, _, rfl, rfl, hz, atI_nat hc, p, V.str (kindS b), rfl, ?_, ?_⟩
    · have := DGet.k (H := upd (upd H p (.dK [])) p (.dK (mergeK [] [((Sum.inr ("n" : Str) : Key), V.str "narrow"), ((Sum.inr ("w" : Str) : Key), V.str "wide")]))) (a := p) (k := (Sum.inr (⟨#[letterC b]⟩ : Str) : Key)) upd_same
      have e : valV (mergeK [] [((Sum.inr ("n" : Str) : Key), V.str "narrow"), ((Sum.inr ("w" : Str) : Key), V.str "wide")]) (Sum.inr (⟨#[letterC b]⟩ : Str) : Key) = some (V.str (kindS b)) := by cases b <;> decide +kernel
      rw [e] at this
      exact this
    · exact k _ _ (fun b' o' e => by rw [upd_ne (ne_of_none e hp), upd_ne (ne_of_none e hp)]; exact e) (.inl ⟨n, b, rfl, hb, rfl⟩)
theorem unit_told {p : Addr} {v : V} {secs : List Sec} (J4 : ErrJ K CE CI c1 CS c3 CN CN 4) (h4 : σ[4]? = some (some (.ref p))) (h8 : σ[8]? = some (some v)) (rd : RoadAt CR H p secs) (SO : SecsOk secs) (hv : Num3 v)
    (k : ∀ x H', Same H H' → UnitY secs v H' x → Q x H') :
    tSubO CR (fun vs H Q E => spRGetX CR CN (vs ++ []) H Q E) (fun cls d H' => toldR K CE CI c1 CS c3 CN cls d H' Q) (tVar 4) (tVar 8) σ H Q := by
  obtain ⟨dp, at_, u, ap, _⟩ := id rd
  refine ⟨_, h4, _, h8, p, dp, _, rfl, ap, ?_⟩
  cases hg : numB v 0 (((unitsL secs).length : Int) - 1) with
  | false => exact .inr ⟨p, secs, v, rfl, rd, SO, hv.plain, hg, CN, 4, .non, rfl, J4, by decide, .inl rfl, .inl rfl, fun H' t s ht => k _ _ s (.inr ⟨hg, t, rfl, ht⟩)⟩
  | true =>
    obtain ⟨n, rfl, h1, h2⟩ := num_nat (lo := 0) hg
    obtain ⟨b, hb⟩ : ∃ b, (kindsL secs)[n]? = some b := ⟨_, List.getElem?_eq_getElem (by rw [kinds_len]; omega)⟩
    exact .inl ⟨p, secs, n, b, rfl, rd, SO, hb, k _ _ (Same.refl H) (.inl ⟨n, b, rfl, hb, rfl⟩)⟩
def numD : V → PyData
  | .int i => .int i
  | .bl b => .bool b
  | _ => .none
theorem dp_num {v : V} (h : Num3 v) : Dp K H v (numD v) := by
  rcases h with ⟨i, rfl⟩ | rfl | ⟨b, rfl⟩
  · exact .int i
  · exact .non
  · exact .bl b
theorem shp_num (v : V) : Shp 0 (numD v) := by cases v <;> exact ⟨rfl, Nat.le_refl _⟩
theorem shp_eNum : Shp 1 (.tuple [.str "error", .str "InvalidNumber"]) := ⟨by decide +kernel, by decide +kernel⟩
theorem shp_eRoad : Shp 1 (.tuple [.str "error", .str "InvalidRoad", .int 12]) := ⟨by decide +kernel, by decide +kernel⟩
theorem dp_eNum {x : V} (h : ErrY H x eNum) : Dp K H x (.tuple [.str "error", .str "InvalidNumber"]) := by
  obtain ⟨t, rfl, h⟩ := h
  exact .tup (SqT.of h) (.cons (.str _) (.cons (.str _) .nil))
theorem dp_eRoad {x : V} (h : ErrY H x eRoad) : Dp K H x (.tuple [.str "error", .str "InvalidRoad", .int 12]) := by
  obtain ⟨t, rfl, h⟩ := h
  exact .tup (SqT.of h) (.cons (.str _) (.cons (.str _) (.cons (.int _) .nil)))
theorem dp_secY {x : V} {secs : List Sec} (h : SecY H x secs) : Dp K H x (.tuple (secs.map secD)) := by
  obtain ⟨t, rfl, ts, h1, h2, h3⟩ := h
  exact .tup (SqT.of h1) (dp_secs h2 h3)
theorem unit_same {secs : List Sec} {v x y : V} (h1 : UnitY secs v H x) (h2 : UnitY secs v H y) : ∃ d, Dp K H x d ∧ Dp K H y d ∧ Shp 2 d := by
  rcases h1 with ⟨n, b, rfl, hb, rfl⟩ | ⟨g, h1⟩
  · rcases h2 with ⟨n', b', e, hb', rfl⟩ | ⟨g, _⟩
    · have e : n = n' := by
        have := V.int.inj e
        omega
      subst e
      rw [hb] at hb'
      cases hb'
      exact ⟨_, .str _, .str _, strOk_kind b, Nat.zero_le _⟩
    · rw [unit_num hb] at g
      cases g
  · rcases h2 with ⟨n', b', rfl, hb', rfl⟩ | ⟨_, h2⟩
    · rw [unit_num hb'] at g
      cases g
    · exact ⟨_, dp_eNum h1, dp_eNum h2, shp_eNum.1, Nat.le_trans shp_eNum.2 (by decide)⟩
/-! #### times -/
def TimesY (secs : List Sec) (v : V) (H : Hp) (x : V) : Prop :=
  (numB v 1 12 = false ∧ ErrY H x eNum) ∨ ∃ n : Nat, v = .int ((n : Nat) : Int) ∧ 1 ≤ n ∧ n ≤ 12 ∧ ((12 < n * secs.length ∧ ErrY H x eRoad) ∨ (n * secs.length ≤ 12 ∧ SecY H x (repS n secs)))
theorem TimesY.ext {secs : List Sec} {v : V} {H H' : Hp} {x : V} (h : TimesY secs v H x) (e : ExtN H H') : TimesY secs v H' x := by
  rcases h with ⟨g, h⟩ | ⟨n, h1, h2, h3, ⟨h4, h⟩ | ⟨h4, h⟩⟩
  · exact .inl ⟨g, h.ext e⟩
  · exact .inr ⟨n, h1, h2, h3, .inl ⟨h4, h.ext e⟩⟩
  · exact .inr ⟨n, h1, h2, h3, .inr ⟨h4, h.ext e⟩⟩
/-- what is due, before the number is looked at -/
def TimesD (secs : List Sec) (v : V) (H : Hp) (x : V) : Prop := ∀ n : Nat, v = .int ((n : Nat) : Int) → 1 ≤ n → n ≤ 12 → ((12 < n * secs.length ∧ ErrY H x eRoad) ∨ (n * secs.length ≤ 12 ∧ SecY H x (repS n secs)))
theorem TimesD.ext {secs : List Sec} {v : V} {H H' : Hp} {x : V} (h : TimesD secs v H x) (e : ExtN H H') : TimesD secs v H' x := fun n h1 h2 h3 => (h n h1 h2 h3).elim (fun h => .inl ⟨h.1, h.2.ext e⟩) fun h => .inr ⟨h.1, h.2.ext e⟩
theorem repS_runs {H : Hp} {p : Addr} {us : List Addr} {secs : List Sec} (n : Nat) (h1 : H p = some (.tup (List.replicate n (us.map V.ref)).flatten)) (h2 : us.length = secs.length) (h3 : ∀ (i : Nat) (t : Addr) (s : Sec), us[i]? = some t → secs[i]? = some s → H t = some (.tup (secV s))) : SecsAt H p (repS n secs) := by
  refine ⟨repS n us, ?_, by rw [repS_len, repS_len, h2], repS_two (R := fun t s => H t = some (.tup (secV s))) h2 h3 n⟩
  rw [h1, repS_map]
  rfl
theorem repS_one {α : Type} (l : List α) : repS 1 l = l := by
  rw [repS_succ]
  show l ++ [] = l
  rw [List.append_nil]
theorem times_due {l : Addr} {v : V} {secs : List Sec} (rn : RunsAt H l secs) (SO : SecsOk secs) (h3 : σ[3]? = some (some (.ref l))) (h11 : σ[11]? = some (some v)) (h9 : σ[9]? = some (some (.bl (numB v 1 12))))
    (k : ∀ x H', Same H H' → TimesD secs v H' x → Q x H') :
    tIf (tAnd (tB (tVar 9)) (tTest (tOp rLe (tOp (rI CMul fun i j => V.int (i * j)) (tCB (rLen K) (tCons (tVar 3) tNil)) (tVar 11)) (tC (.int 12))))) (tOp (rRepN K) (tCB (rTupOf K) (tCons (tVar 3) tNil)) (tVar 11)) (tTup (tCons (tC (.str "error")) (tCons (tC (.str "InvalidRoad")) (tCons (tC (.int 12)) tNil)))) σ H Q := by
  obtain ⟨us, u1, u2, u3⟩ := id rn
  have hus : (us.map V.ref).length = secs.length := by rw [List.length_map, u2]
  have l12 := SO.few
  refine ⟨_, h9, _, rfl, ?_⟩
  cases hg : numB v 1 12 with
  | false =>
    refine iteF (iteF ⟨by show 3 ≤ sizeLine; decide, fun t ht => k _ _ (sameNew ht (.tup [V.str "error", V.str "InvalidRoad", V.int 12])) fun n hn h1 h2 => ?_⟩)
    subst hn
    have e : numB (.int ((n : Nat) : Int)) 1 12 = true := by
      show (decide ((1 : Int) ≤ (n : Int)) && decide ((n : Int) ≤ 12)) = true
      rw [decide_eq_true (by omega), decide_eq_true (by omega)]
      rfl
    rw [e] at hg
    cases hg
  | true =>
    obtain ⟨n, rfl, h1, h2⟩ := num_nat (lo := 1) hg
    refine iteT ⟨_, h3, l, _, rfl, .inl (SqL.of u1), _, h11, _, _, rfl, rfl, .inr ⟨by omega, by omega⟩, _, _, rfl, rfl, _, rfl, ?_⟩
    rw [hus]
    have em : ((secs.length : Nat) : Int) * ((n : Nat) : Int) = ((n * secs.length : Nat) : Int) := by rw [Nat.mul_comm, Int.natCast_mul]
    rw [em]
    by_cases hle : n * secs.length ≤ 12
    · rw [decide_eq_true (by omega)]
      refine iteT ⟨_, h3, l, _, rfl, .inl ⟨SqL.of u1, fun t ht => ?_⟩⟩
      have s1 := sameNew ht (.tup (us.map V.ref))
      have at1 : SecsAt (upd H t (.tup (us.map V.ref))) t secs := ⟨us, upd_same, u2, fun i t s e1 e2 => s1 _ _ (u3 i t s e1 e2)⟩
      refine ⟨_, h11, t, n, _, rfl, rfl, SqT.of upd_same, fun z => ?_, h1, by omega, by rw [hus]; omega, fun n1 => k _ _ s1 fun m hm _ _ => ?_, fun n2 q hq => k _ _ (s1.trans (sameNew hq (.tup (List.replicate n (us.map V.ref)).flatten))) fun m hm _ _ => ?_⟩
      · rw [z] at hus
        exact SO.ne (List.length_eq_zero_iff.mp hus.symm)
      · have hm : n = m := by have := V.int.inj hm; omega
        subst hm
        subst n1
        rw [repS_one]
        exact .inr ⟨by omega, t, rfl, at1⟩
      · have hm : n = m := by have := V.int.inj hm; omega
        subst hm
        exact .inr ⟨hle, q, rfl, repS_runs n upd_same u2 fun i t s e1 e2 => sameNew hq _ _ _ (s1 _ _ (u3 i t s e1 e2))⟩
    · rw [decide_eq_false (by omega)]
      refine iteF ⟨by show 3 ≤ sizeLine; decide, fun t ht => k _ _ (sameNew ht (.tup [V.str "error", V.str "InvalidRoad", V.int 12])) fun m hm _ _ => ?_⟩
      have hm : n = m := by have := V.int.inj hm; omega
      subst hm
      exact .inl ⟨by omega, t, rfl, upd_same⟩
theorem times_due2 {y v : V} {secs : List Sec} (hd : TimesD secs v H y) (h10 : σ[10]? = some (some y)) (h9 : σ[9]? = some (some (.bl (numB v 1 12)))) (k : ∀ x H', Same H H' → TimesY secs v H' x → Q x H') :
    tIf (tB (tVar 9)) (tVar 10) (tTup (tCons (tC (.str "error")) (tCons (tC (.str "InvalidNumber")) tNil))) σ H Q := by
  refine ⟨_, h9, _, rfl, ?_⟩
  cases hg : numB v 1 12 with
  | false => exact iteF ⟨by show 2 ≤ sizeLine; decide, fun t ht => k _ _ (sameNew ht (.tup [V.str "error", V.str "InvalidNumber"])) (.inl ⟨hg, t, rfl, upd_same⟩)⟩
  | true =>
    obtain ⟨n, rfl, h1, h2⟩ := num_nat (lo := 1) hg
    exact iteT ⟨_, h10, k _ _ (Same.refl H) (.inr ⟨n, rfl, h1, by omega, hd n rfl h1 (by omega)⟩)⟩
theorem times_told {p : Addr} {v : V} {secs : List Sec} (J0 : ErrJ K CE CI c1 CS c3 CN CI 0) (J4 : ErrJ K CE CI c1 CS c3 CN CN 4) (h4 : σ[4]? = some (some (.ref p))) (h11 : σ[11]? = some (some v)) (rd : RoadAt CR H p secs) (SO : SecsOk secs) (hv : Num3 v)
    (k : ∀ x H', ExtN H H' → (∀ T, Tabs T H → Tabs T H') → TimesY secs v H' x → Q x H') :
    tProp CR (getSp CR "_sections") [] L2.E0 (tOp (rMulV CR (fun vs H Q E => spRMulX CR CN CI (vs ++ []) H Q E) (fun cls d H' => toldR K CE CI c1 CS c3 CN cls d H' Q)) (tVar 4) (tVar 11)) σ H Q := by
  obtain ⟨dp, at_, u, ap, _⟩ := id rd
  refine ⟨_, h4, _, h11, p, dp, _, rfl, hv, ap, p, secs, v, rfl, rd, SO, hv.plain, ?_⟩
  cases hg : numB v 1 12 with
  | false => exact .inl ⟨rfl, CN, 4, .non, rfl, J4, by decide, .inl rfl, .inl rfl, fun H' t s ht => k _ _ (ExtN.same s) (fun _ T => T.ext s) (.inl ⟨hg, t, rfl, ht⟩)⟩
  | true =>
    obtain ⟨n, rfl, h1, h2⟩ := num_nat (lo := 1) hg
    refine .inr ⟨n, rfl, h1, by omega, ?_⟩
    by_cases hle : n * secs.length ≤ 12
    · refine .inr ⟨hle, fun H' q s hq rq => ?_⟩
      obtain ⟨dq, bt, w, aq, bq, _⟩ := id rq
      exact ⟨q, dq, _, rfl, aq, q, dq, _, _, rfl, aq, rf_sections _ _, k _ _ (ExtN.same s) (fun _ T => T.ext s) (.inr ⟨n, rfl, h1, by omega, .inr ⟨hle, bt, rfl, bq⟩⟩)⟩
    · exact .inl ⟨by omega, fun H' d fs s hd hl => ⟨CI, 0, .int 12, rfl, J0, by decide, .inr ⟨d, fs, rfl, hd⟩, .inr ⟨d, fs, rfl, hd, hl⟩, fun H2 t s2 ht => k _ _ (ExtN.same (s.trans s2)) (fun _ T => T.ext (s.trans s2)) (.inr ⟨n, rfl, h1, by omega, .inl ⟨by omega, t, rfl, ht⟩⟩)⟩⟩
theorem times_num {n : Nat} (h1 : 1 ≤ n) (h2 : n ≤ 12) : numB (.int ((n : Nat) : Int)) 1 12 = true := by
  show (decide ((1 : Int) ≤ (n : Int)) && decide ((n : Int) ≤ 12)) = true
  rw [decide_eq_true (by omega), decide_eq_true (by omega)]
  rfl
theorem times_same {secs : List Sec} {v x y : V} (h1 : TimesY secs v H x) (h2 : TimesY secs v H y) : ∃ d, Dp K H x d ∧ Dp K H y d ∧ Shp 2 d := by
  rcases h1 with ⟨g, h1⟩ | ⟨n, rfl, a1, a2, h1⟩
  · rcases h2 with ⟨_, h2⟩ | ⟨n, rfl, a1, a2, h2⟩
    · exact ⟨_, dp_eNum h1, dp_eNum h2, shp_eNum.1, Nat.le_trans shp_eNum.2 (by decide)⟩
    · rw [times_num a1 a2] at g
      cases g
  · rcases h2 with ⟨g, h2⟩ | ⟨m, e, b1, b2, h2⟩
    · rw [times_num a1 a2] at g
      cases g
    · have e : n = m := by have := V.int.inj e; omega
      subst e
      rcases h1 with ⟨g1, h1⟩ | ⟨g1, h1⟩ <;> rcases h2 with ⟨g2, h2⟩ | ⟨g2, h2⟩
      · exact ⟨_, dp_eRoad h1, dp_eRoad h2, shp_eRoad.1, Nat.le_trans shp_eRoad.2 (by decide)⟩
      · omega
      · omega
      · exact ⟨_, dp_secY h1, dp_secY h2, shp_secs _⟩
end
end Sl

set_option Elab.async false
set_option linter.all false
set_option maxRecDepth 100000
set_option maxHeartbeats 2000000
namespace Sl
open PySem PySem.Spec L2 OwnR LamX
section
variable {K : PySem.W.Frag} {CR CE CI c1 CS c3 CN : Addr} {σ : L2.St} {H : Hp} {Q : VK}
/-! #### widened -/
/-- what is told -/
def WidY (secs : List Sec) (v : V) (H : Hp) (x : V) : Prop :=
  (numB v 0 (((secs.length : Nat) : Int) - 1) = false ∧ ErrY H x (eSec v)) ∨ ∃ (n : Nat) (s : Sec), v = .int ((n : Nat) : Int) ∧ secs[n]? = some s ∧ SecY H x (widen (widen (widen secs [0, n]) [n]) [])
/-- what is due -/
def WidD (secs : List Sec) (v : V) (H : Hp) (x : V) : Prop :=
  (numB v 0 (((secs.length : Nat) : Int) - 1) = false ∧ ErrY H x (eSec v)) ∨ ∃ (n : Nat) (s : Sec), v = .int ((n : Nat) : Int) ∧ secs[n]? = some s ∧ SecY H x (secs.take n ++ [(true, s.2)] ++ secs.drop (n + 1))
theorem WidY.ext {secs : List Sec} {v : V} {H H' : Hp} {x : V} (h : WidY secs v H x) (e : ExtN H H') : WidY secs v H' x := h.elim (fun h => .inl ⟨h.1, h.2.ext e⟩) fun ⟨n, s, a, b, c⟩ => .inr ⟨n, s, a, b, c.ext e⟩
theorem WidD.ext {secs : List Sec} {v : V} {H H' : Hp} {x : V} (h : WidD secs v H x) (e : ExtN H H') : WidD secs v H' x := h.elim (fun h => .inl ⟨h.1, h.2.ext e⟩) fun ⟨n, s, a, b, c⟩ => .inr ⟨n, s, a, b, c.ext e⟩
theorem wid_num {secs : List Sec} {n : Nat} (h : n < secs.length) : numB (.int ((n : Nat) : Int)) 0 (((secs.length : Nat) : Int) - 1) = true := by
  show (decide ((0 : Int) ≤ (n : Int)) && decide ((n : Int) ≤ ((secs.length : Nat) : Int) - 1)) = true
  rw [decide_eq_true (by omega), decide_eq_true (by omega)]
  rfl
theorem set_same {α : Type} {l : List α} {i : Nat} {x : α} (h : l[i]? = some x) : l.set i x = l := by
  refine List.ext_getElem? fun j => ?_
  rw [List.getElem?_set]
  by_cases hj : i = j
  · subst hj
    have := (List.getElem?_eq_some_iff.mp h).1
    rw [if_pos rfl, if_pos this, h]
  · rw [if_neg hj]
theorem wid_due {D : L2.Ends} {l : Addr} {v y : V} {secs : List Sec} (rn : RunsAt H l secs) (SO : SecsOk secs) (hv : (∃ i, v = .int i) ∨ v = .non) (h3 : σ[3]? = some (some (.ref l))) (h12 : σ[12]? = some (some v)) (h10 : σ[10]? = some (some y)) (hy : ErrY H y (eSec v))
    (k : ∀ x H', Same H H' → WidD secs v H' x → D.nx (σ.set 10 (some x)) H') :
    tIfS (tAnd (tB (tNotN (tVar 12))) (tTest (tChain rLe rLt (tC (.int 0)) (tVar 12) (tCB (rLen K) (tCons (tVar 3) tNil)))))
      (tAsg (tCB (rTupOf K) (tCons (tOp rCat (tOp rCat (tSl (rSlL K) (tVar 3) tNoPart (tPart (tVar 12))) (tLst (tCons (tTup (tCons (tC (.str "wide")) (tCons (tOp (rIxT K) (tOp (rIxL K) (tVar 3) (tVar 12)) (tC (.int 1))) tNil))) tNil))) (tSl (rSlL K) (tVar 3) (tPart (tOp (rI0 fun i j => V.int (i + j)) (tVar 12) (tC (.int 1)))) tNoPart)) tNil)) (gName 10)) tNext D σ H := by
  obtain ⟨us, u1, u2, u3⟩ := id rn
  have hus : (us.map V.ref).length = secs.length := by rw [List.length_map, u2]
  have l12 := SO.few
  have keep : numB v 0 (((secs.length : Nat) : Int) - 1) = false → D.nx σ H := fun g => by
    have := k y H (Same.refl H) (.inl ⟨g, hy⟩)
    rw [set_same h10] at this
    exact this
  rcases hv with ⟨i, rfl⟩ | rfl
  · refine ⟨_, h12, _, rfl, ?_⟩
    rw [show (!decide (V.int i = V.non)) = true by simp]
    refine iteT ⟨_, h12, 0, i, rfl, rfl, _, rfl, ?_⟩
    cases hg : numB (.int i) 0 (((secs.length : Nat) : Int) - 1) with
    | false =>
      have hg2 : (decide ((0 : Int) ≤ i) && decide (i ≤ ((secs.length : Nat) : Int) - 1)) = false := hg
      by_cases h0 : (0 : Int) ≤ i
      · rw [decide_eq_true h0] at hg2 ⊢
        refine iteT ⟨_, h3, l, _, rfl, .inl (SqL.of u1), _, _, rfl, rfl, _, rfl, ?_⟩
        rw [hus]
        have : ¬ (i ≤ ((secs.length : Nat) : Int) - 1) := fun z => by rw [decide_eq_true z] at hg2; cases hg2
        rw [decide_eq_false (by omega)]
        exact iteF (keep hg)
      · rw [decide_eq_false h0]
        exact iteF ⟨_, rfl, iteF (keep hg)⟩
    | true =>
      obtain ⟨n, hn, _, h2⟩ := num_nat (lo := 0) hg
      cases hn
      have hlt : n < secs.length := by omega
      obtain ⟨s, hs⟩ : ∃ s, secs[n]? = some s := ⟨_, List.getElem?_eq_getElem hlt⟩
      obtain ⟨t, ht⟩ : ∃ t, us[n]? = some t := ⟨_, List.getElem?_eq_getElem (by omega)⟩
      have hts := u3 n t s ht hs
      rw [decide_eq_true (by omega)]
      refine iteT ⟨_, h3, l, _, rfl, .inl (SqL.of u1), _, _, rfl, rfl, _, rfl, ?_⟩
      rw [hus, decide_eq_true (by omega)]
      refine iteT ?_
      refine ⟨_, h3, _, h12, _, rfl, l, _, rfl, SqL.of u1, fun z1 hz1 => ?_⟩
      rw [cut_to (by rw [hus]; omega)]
      have s1 := sameNew hz1 (.lst ((us.map V.ref).take n))
      refine ⟨_, h3, _, h12, l, _, _, .ref t, rfl, rfl, SqL.of (s1 _ _ u1), atI_nat (map_at V.ref ht), t, _, _, _, rfl, rfl, SqT.of (s1 _ _ hts), rfl, by show 2 ≤ sizeLine; decide, fun z2 hz2 => ⟨by show 1 ≤ sizeLine; decide, fun z3 hz3 => ?_⟩⟩
      have s2 := sameNew hz2 (.tup [V.str "wide", V.int ((s.2 : Nat) : Int)])
      have s3 := sameNew hz3 (.lst [V.ref z2])
      refine ⟨z1, z3, (us.map V.ref).take n, [V.ref z2], rfl, rfl, s3 _ _ (s2 _ _ upd_same), upd_same, Nat.le_trans (m := 1000) (by rw [List.length_take, hus]; show min n secs.length + 1 ≤ 1000; omega) (by decide), fun z4 hz4 => ?_⟩
      have s4 := sameNew hz4 (.lst ((us.map V.ref).take n ++ [V.ref z2]))
      have s14 := s1.trans (s2.trans (s3.trans s4))
      refine ⟨_, h3, _, h12, _, _, rfl, rfl, _, rfl, l, _, rfl, SqL.of (s14 _ _ u1), fun z5 hz5 => ?_⟩
      rw [show (((n : Nat) : Int) + 1) = ((n + 1 : Nat) : Int) from rfl, cut_from (by rw [hus]; omega)]
      have s5 := sameNew hz5 (.lst ((us.map V.ref).drop (n + 1)))
      refine ⟨z4, z5, (us.map V.ref).take n ++ [V.ref z2], (us.map V.ref).drop (n + 1), rfl, rfl, s5 _ _ upd_same, upd_same, Nat.le_trans (m := 1000) (by rw [List.length_append, List.length_take, List.length_drop, hus]; show min n secs.length + 1 + (secs.length - (n + 1)) ≤ 1000; omega) (by decide), fun z6 hz6 => ?_⟩
      have s6 := sameNew hz6 (.lst (((us.map V.ref).take n ++ [V.ref z2]) ++ (us.map V.ref).drop (n + 1)))
      refine ⟨z6, _, rfl, .inl ⟨SqL.of upd_same, fun z7 hz7 => ?_⟩⟩
      have s7 := sameNew hz7 (.tup (((us.map V.ref).take n ++ [V.ref z2]) ++ (us.map V.ref).drop (n + 1)))
      have s47 := s5.trans (s6.trans s7)
      have s17 := s14.trans s47
      refine k _ _ s17 (.inr ⟨n, s, rfl, hs, z7, rfl, us.take n ++ [z2] ++ us.drop (n + 1), ?_, ?_, fun i b x e1 e2 => ?_⟩)
      · rw [upd_same, List.map_append, List.map_append, List.map_take, List.map_drop]
        rfl
      · rw [List.length_append, List.length_append, List.length_append, List.length_append, List.length_take, List.length_take, List.length_drop, List.length_drop, u2]
        rfl
      · have tl : (us.take n).length = (secs.take n).length := by rw [List.length_take, List.length_take, u2]
        have hT : (us.take n).length = n := by rw [List.length_take]; omega
        rw [List.append_assoc] at e1 e2
        rcases Nat.lt_trichotomy i n with lt | eq | gt
        · rw [List.getElem?_append_left (by rw [hT]; exact lt), List.getElem?_take_of_lt lt] at e1
          rw [List.getElem?_append_left (by rw [← tl, hT]; exact lt), List.getElem?_take_of_lt lt] at e2
          exact s17 _ _ (u3 i b x e1 e2)
        · subst eq
          rw [List.getElem?_append_right (by rw [hT]; exact Nat.le_refl _), hT, Nat.sub_self] at e1
          rw [List.getElem?_append_right (by rw [← tl, hT]; exact Nat.le_refl _), ← tl, hT, Nat.sub_self] at e2
          cases e1
          cases e2
          exact s47 _ _ (s4 _ _ (s3 _ _ upd_same))
        · rw [List.getElem?_append_right (by rw [hT]; omega), hT] at e1
          rw [List.getElem?_append_right (by rw [← tl, hT]; omega), ← tl, hT] at e2
          obtain ⟨j, rfl⟩ : ∃ j, i = n + 1 + j := ⟨i - (n + 1), by omega⟩
          rw [show n + 1 + j - n = j + 1 by omega] at e1 e2
          have e1 : (us.drop (n + 1))[j]? = some b := e1
          have e2 : (secs.drop (n + 1))[j]? = some x := e2
          rw [List.getElem?_drop] at e1 e2
          exact s17 _ _ (u3 _ b x e1 e2)
  · refine ⟨_, h12, _, rfl, ?_⟩
    rw [show (!decide (V.non = V.non)) = false by simp]
    exact iteF (iteF (keep rfl))
theorem wid_told {p : Addr} {v : V} {secs : List Sec} (J2 : ErrJ K CE CI c1 CS c3 CN CS 2) (h4 : σ[4]? = some (some (.ref p))) (h12 : σ[12]? = some (some v)) (rd : RoadAt CR H p secs) (SO : SecsOk secs) (hv : Plain v)
    (k : ∀ x H', ExtN H H' → (∀ T, Tabs T H → Tabs T H') → WidY secs v H' x → Q x H') :
    tProp CR (getSp CR "_sections") [] L2.E0 (tMethR CR "widened" (spWidJ CR CS) (fun cls d H' => toldR K CE CI c1 CS c3 CN cls d H' Q) (tMethR CR "widened" (spWidJ CR CS) (fun cls d H' => toldR K CE CI c1 CS c3 CN cls d H' Q) (tMethR CR "widened" (spWidJ CR CS) (fun cls d H' => toldR K CE CI c1 CS c3 CN cls d H' Q) (tVar 4) (tCons (tC (.int 0)) (tCons (tVar 12) tNil))) (tCons (tVar 12) tNil)) tNil) σ H Q := by
  have l12 := SO.few
  have l1 : 1 ≤ secs.length := by
    cases h : secs with
    | nil => exact absurd h SO.ne
    | cons _ _ => simp
  obtain ⟨dp, at_, u, ap, _⟩ := id rd
  have nw : ∀ (t : Addr) (u : Str), (rf t u).lookup ("widened" : Str) = none := fun t u => rf_no t u (by decide +kernel) (by decide +kernel)
  refine ⟨_, h4, p, dp, _, rfl, ap, nw _ _, _, h12, ?_⟩
  cases hg : numB v 0 (((secs.length : Nat) : Int) - 1) with
  | false =>
    refine .inr ⟨[.ref p], [.int 0, v], rfl, rfl, by show 2 ≤ sizeLine; decide, fun t ht => ?_⟩
    have s1 := sameNew ht (.tup [V.int 0, v])
    refine ⟨p, t, secs, [.int 0, v], 1, v, rfl, upd_same, rd.ext2 (ExtN.same s1), SO, rfl, hv, hg, fun i hi => ⟨0, ?_, l1⟩, fun H' d fs s hd hl => ⟨CS, 2, v, rfl, J2, by decide, .inr ⟨d, fs, rfl, hd⟩, .inr ⟨d, fs, rfl, hd, hl⟩, fun H2 t2 s2 ht2 => ?_⟩⟩
    · obtain rfl : i = 0 := by omega
      rfl
    · have sA := s1.trans (s.trans s2)
      exact k _ _ (ExtN.same sA) (fun _ T => T.ext sA) (.inl ⟨hg, t2, rfl, ht2⟩)
  | true =>
    obtain ⟨n, rfl, _, h2⟩ := num_nat (lo := 0) hg
    have hlt : n < secs.length := by omega
    obtain ⟨s, hs⟩ : ∃ s, secs[n]? = some s := ⟨_, List.getElem?_eq_getElem hlt⟩
    refine .inl ⟨[.ref p], [.int 0, .int ((n : Nat) : Int)], rfl, rfl, by show 2 ≤ sizeLine; decide, fun t ht => ?_⟩
    have s1 := sameNew ht (.tup [V.int 0, V.int ((n : Nat) : Int)])
    refine ⟨p, t, secs, [0, n], rfl, upd_same, rd.ext2 (ExtN.same s1), SO, by show 2 ≤ 1000; decide, fun i hi => ?_, fun H1 q s2 rq => ?_⟩
    · rcases List.mem_cons.mp hi with rfl | hi
      · exact l1
      · rw [List.mem_singleton.mp hi]
        exact hlt
    obtain ⟨dq, bt, w, aq, _⟩ := id rq
    have SO2 := widen_ok SO [0, n]
    refine ⟨q, dq, _, rfl, aq, nw _ _, _, h12, .inl ⟨[.ref q], [.int ((n : Nat) : Int)], rfl, rfl, by show 1 ≤ sizeLine; decide, fun t2 ht2 => ?_⟩⟩
    have s3 := sameNew ht2 (.tup [V.int ((n : Nat) : Int)])
    refine ⟨q, t2, widen secs [0, n], [n], rfl, upd_same, rq.ext2 (ExtN.same s3), SO2, by show 1 ≤ 1000; decide, fun i hi => ?_, fun H2 q2 s4 rq2 => ?_⟩
    · rw [List.mem_singleton.mp hi, widen_len]
      exact hlt
    obtain ⟨dq2, bt2, w2, aq2, _⟩ := id rq2
    have SO3 := widen_ok SO2 [n]
    refine ⟨q2, dq2, _, rfl, aq2, nw _ _, .inl ⟨[.ref q2], [], rfl, rfl, by show 0 ≤ sizeLine; decide, fun t3 ht3 => ?_⟩⟩
    have s5 := sameNew ht3 (.tup [])
    refine ⟨q2, t3, widen (widen secs [0, n]) [n], [], rfl, upd_same, rq2.ext2 (ExtN.same s5), SO3, by show 0 ≤ 1000; decide, fun i hi => (nomatch hi), fun H3 q3 s6 rq3 => ?_⟩
    obtain ⟨dq3, bt3, w3, aq3, bq3, _⟩ := id rq3
    have sA := s1.trans (s2.trans (s3.trans (s4.trans (s5.trans s6))))
    exact ⟨q3, dq3, _, rfl, aq3, q3, dq3, _, _, rfl, aq3, rf_sections _ _, k _ _ (ExtN.same sA) (fun _ T => T.ext sA) (.inr ⟨n, s, rfl, hs, bt3, rfl, bq3⟩)⟩
/-- the two, but for their first items -/
theorem wid_same {v x y : V} {secs : List Sec} (SO : SecsOk secs) (hv : Num3 v) (h1 : WidY secs v H x) (h2 : WidD secs v H y) :
    ∃ (a b : Addr) (xs ys : List V) (d : PyData), x = .ref a ∧ y = .ref b ∧ H a = some (.tup xs) ∧ H b = some (.tup ys) ∧ 1 ≤ xs.length ∧ 1 ≤ ys.length ∧ Shp 2 d ∧
      ∀ H' p q, Same H H' → H' p = some (.tup (xs.drop 1)) → H' q = some (.tup (ys.drop 1)) → Dp K H' (.ref p) d ∧ Dp K H' (.ref q) d := by
  have l1 : 1 ≤ secs.length := by
    cases h : secs with
    | nil => exact absurd h SO.ne
    | cons _ _ => simp
  rcases h1 with ⟨g, a, rfl, ha⟩ | ⟨n, s, rfl, hs, a, rfl, ts, t1, t2, t3⟩
  · rcases h2 with ⟨_, b, rfl, hb⟩ | ⟨n, s, rfl, hs, _⟩
    · refine ⟨a, b, _, _, .tuple [.str "UnknownSection", numD v], rfl, rfl, ha, hb, by show 1 ≤ 3; decide, by show 1 ≤ 3; decide, ?_, fun H' p q _ hp hq => ?_⟩
      · refine shp_tuple fun d hd => ?_
        rcases List.mem_cons.mp hd with rfl | hd
        · exact ⟨by decide +kernel, Nat.zero_le _⟩
        · rw [List.mem_singleton.mp hd]
          exact ⟨(shp_num v).1, Nat.le_trans (shp_num v).2 (by decide)⟩
      · exact ⟨.tup (SqT.of hp) (.cons (.str _) (.cons (dp_num hv) .nil)), .tup (SqT.of hq) (.cons (.str _) (.cons (dp_num hv) .nil))⟩
    · rw [wid_num (List.getElem?_eq_some_iff.mp hs).1] at g
      cases g
  · have hlt := (List.getElem?_eq_some_iff.mp hs).1
    rcases h2 with ⟨g, _⟩ | ⟨n', s', e, hs', b, rfl, us, u1, u2, u3⟩
    · rw [wid_num hlt] at g
      cases g
    · have e : n = n' := by have := V.int.inj e; omega
      subst e
      rw [hs] at hs'
      cases hs'
      have tail := widen_tail hs
      have lx : (widen (widen (widen secs [0, n]) [n]) []).length = secs.length := by rw [widen_len, widen_len, widen_len]
      have ly : (secs.take n ++ [(true, s.2)] ++ secs.drop (n + 1)).length = secs.length := by
        rw [List.length_append, List.length_append, List.length_take, List.length_drop]
        show min n secs.length + 1 + (secs.length - (n + 1)) = _
        omega
      refine ⟨a, b, _, _, .tuple (((widen (widen (widen secs [0, n]) [n]) []).drop 1).map secD), rfl, rfl, t1, u1, by rw [List.length_map, t2, lx]; exact l1, by rw [List.length_map, u2, ly]; exact l1, shp_secs _, fun H' p q e hp hq => ?_⟩
      rw [← List.map_drop] at hp hq
      refine ⟨.tup (SqT.of hp) (dp_secs (by rw [List.length_drop, List.length_drop, t2]) fun i t x e1 e2 => ?_), .tup (SqT.of hq) ?_⟩
      · rw [List.getElem?_drop] at e1 e2
        exact e _ _ (t3 _ t x e1 e2)
      · rw [tail]
        refine dp_secs (by rw [List.length_drop, List.length_drop, u2]) fun i t x e1 e2 => ?_
        rw [List.getElem?_drop] at e1 e2
        exact e _ _ (u3 _ t x e1 e2)
end
end Sl

set_option Elab.async false
set_option linter.all false
set_option maxRecDepth 100000
set_option maxHeartbeats 4000000
namespace Sl
open PySem PySem.Spec L2 OwnR LamX
def qLaw : Str := ("law" : Str) ++ (".<locals>." : Str) ++ ("<lambda>" : Str)
def nLaw : List Str := ["_law_script", "_law_d", "_law_turn", "_law_parts_here", "_law_road", "_law_units", "_law_same", "_law_ends", "_law_unit", "_law_good", "_law_due", "_law_times", "_law_k", "_law_found", "_law_count"]
theorem scLaw : FnScope nLaw ["_law_script"] (defScope sLaw) := ⟨rfl, rfl, rfl, by decide +kernel, rfl, by decide +kernel, by decide +kernel⟩
/-- what the law has at hand -/
structure LawB (K : PySem.W.Frag) (CR : Addr) (T : List (Addr × Str)) (H : Hp) (r sc l p : Addr) (ns : List Int) (secs : List Sec) : Prop where
  row : RowAt K H r sc ns
  rn : RunsAt H l secs
  nl : l ≠ r
  rd : RoadAt CR H p secs
  tb : Tabs T H
theorem LawB.ext {K : PySem.W.Frag} {CR : Addr} {T : List (Addr × Str)} {H H' : Hp} {r sc l p : Addr} {ns : List Int} {secs : List Sec} (F : LawB K CR T H r sc l p ns secs) (e : ExtN H H') (t : Tabs T H') : LawB K CR T H' r sc l p ns secs :=
  ⟨F.row.ext e, F.rn.ext2 e, F.nl, F.rd.ext2 e, t⟩
theorem LawB.same {K : PySem.W.Frag} {CR : Addr} {T : List (Addr × Str)} {H H' : Hp} {r sc l p : Addr} {ns : List Int} {secs : List Sec} (F : LawB K CR T H r sc l p ns secs) (e : Same H H') : LawB K CR T H' r sc l p ns secs := F.ext (ExtN.same e) (F.tb.ext e)
theorem LawB.keep {K : PySem.W.Frag} {CR : Addr} {T : List (Addr × Str)} {H H' : Hp} {r sc l p : Addr} {ns : List Int} {secs : List Sec} (F : LawB K CR T H r sc l p ns secs) (k : KeepB r H H') (R : RowAt K H' r sc ns) : LawB K CR T H' r sc l p ns secs := by
  obtain ⟨x, hx⟩ := F.row.lst
  exact ⟨R, F.rn.keep k F.nl hx, F.nl, F.rd.keepB k hx, Tabs.keepL F.tb (k.notlst hx)⟩
/-- all that the law asks of the program -/
structure Env01 (P : Program) (w : World) (K : PySem.W.Frag) (mg : Str → Option Value) (base : Heap) (CR CE CI c1 CS c3 CN pU fU pS fS pO fO lp kp : Addr) (mc : Value) (T : List (Addr × Str)) : Prop where
  M : Mg mg
  RR : RoadT K w mg CR lp kp
  ET : ErrTab mg CE CI c1 CS c3 CN
  J0 : ErrJ K CE CI c1 CS c3 CN CI 0
  J2 : ErrJ K CE CI c1 CS c3 CN CS 2
  J4 : ErrJ K CE CI c1 CS c3 CN CN 4
  dice : ∃ f fd, Fb K mg "_law_dice" sDice ["_law_script"] f fd ∧ FnOk P w K mg base CX0 1 f fd ["_law_script"] (spDice K)
  next : ∃ f fd, Fb K mg "_law_next" sNext ["_law_dice_here", "_law_many"] f fd ∧ FnOk P w K mg base CX0 1 f fd ["_law_dice_here", "_law_many"] (spNext K)
  pick : ∃ f fd, Fb K mg "_law_pick" sPick ["_law_d", "_law_some"] f fd ∧ FnOk P w K mg base CX0 2 f fd ["_law_d", "_law_some"] (spPick K)
  parts : ∃ f fd, Fb K mg "_law_parts" sParts ["_law_d", "_law_most", "_law_long"] f fd ∧ FnOk P w K mg base CX0 3 f fd ["_law_d", "_law_most", "_law_long"] (spParts K)
  made : ∃ f fd, Fb K mg "_law_made" sMade ["_law_parts_here"] f fd ∧ FnOk P w K mg base CX0 6 f fd ["_law_parts_here"] (spMade CR)
  lets : ∃ f fd, Fb K mg "_law_letters" sLetters ["_law_parts_here"] f fd ∧ FnOk P w K mg base CX0 1 f fd ["_law_parts_here"] spLetters
  rof : ∃ f fd, Fb K mg "_law_road_of" sRoadOf ["_law_d", "_law_parts_here"] f fd ∧ FnOk P w K mg base CX0 8 f fd ["_law_d", "_law_parts_here"] (spRoadOf K T)
  cr : ClX.CRead K CR mc
  cm : ClX.CMet K CR mc "of_units" pO fO
  ofu : ∃ dO, Binds K dO ["cls", "units"] [] ∧ FnOk P w K mg base CX0 5 fO dO ["cls", "units"] (spOfUnits CR)
  ofx : ∃ dO, Binds K dO ["cls", "units"] [] ∧ FnOk P w K mg base (L2.CX P w) 6 fO dO ["cls", "units"] (spOfX CR CI)
  nf : PySem.W.notFirst K CR (.ref CR) = true
  nfs : PySem.W.notFirst K CR (.type "str") = true
  eq : ∃ f fd, PySem.W.findIn K (.ref CR) (cmpInfo .Eq).2.1 = some (some (.ref f)) ∧ PySem.W.isFn K (.ref f) = true ∧ Binds K fd ["self", "other"] [] ∧ FnOk P w K mg base CX0 1 f fd ["self", "other"] (spREq CR) ∧ FnOk P w K mg base CX0 1 f fd ["self", "other"] (spREqS CR)
  len : ∃ f fd, PySem.W.findIn K (.ref CR) "__len__" = some (some (.ref f)) ∧ PySem.W.isFn K (.ref f) = true ∧ Binds K fd ["self"] [] ∧ FnOk P w K mg base CX0 1 f fd ["self"] (spRLen CR)
  get : ∃ f fd, PySem.W.findIn K (.ref CR) "__getitem__" = some (some (.ref f)) ∧ PySem.W.isFn K (.ref f) = true ∧ PySem.W.fnIn K f = true ∧ Binds K fd ["self", "at"] [] ∧ FnOk P w K mg base (L2.CX P w) 2 f fd ["self", "at"] (spRGetX CR CN)
  has : ∃ f fd, PySem.W.findIn K (.ref CR) "__contains__" = some (some (.ref f)) ∧ PySem.W.isFn K (.ref f) = true ∧ Binds K fd ["self", "x"] [] ∧ FnOk P w K mg base CX0 1 f fd ["self", "x"] (spRHas CR)
  mul : ∃ f fd, MulO K CR f ∧ Binds K fd ["self", "other"] [] ∧ FnOk P w K mg base (L2.CX P w) 6 f fd ["self", "other"] (spRMulX CR CN CI)
  wid : ∃ f, Meth K CR "widened" f ∧ FnR P w K mg base (L2.CX P w) 5 f (spWidJ CR CS)
  units : ∃ dU, PropOf K CR "units" pU fU ∧ Binds K dU ["self"] [] ∧ FnOk P w K mg base CX0 1 fU dU ["self"] (getSp CR "_units")
  secs : ∃ dS, PropOf K CR "sections" pS fS ∧ Binds K dS ["self"] [] ∧ FnOk P w K mg base CX0 1 fS dS ["self"] (getSp CR "_sections")
  told : ∃ g cdv, Teller K mg "_law_told" "_law_work" g nTold (defBody sTold) (defScope sTold) cdv
section
variable {P : Program} {w : World} {K : PySem.W.Frag} {mg : Str → Option Value} {base : Heap}
def spLaw (K : PySem.W.Frag) (T : List (Addr × Str)) : Sp := fun vs H Q _ => ∃ (sc : Addr) (ns : List Int), vs = [.ref sc] ∧ SqL K H sc (ns.map V.int) ∧ Tabs T H ∧ ∀ H', Q (.bl true) H'
theorem ok_law {f c Pt CR CE CI c1 CS c3 CN pU fU pS fS pO fO lp kp : Addr} {mc : Value} {fd : FuncData} {T : List (Addr × Str)} (F : FunC K "law" "law" sLaw f fd c) (TB : TabB base mg c Pt) (hm : (Pt, qLaw) ∈ T) (hut : ∀ p ∈ T, p.1 = Pt → p.2 = qLaw) (X9 : Env01 P w K mg base CR CE CI c1 CS c3 CN pU fU pS fS pO fO lp kp mc T) : FnOk P w K mg base CX0 11 f fd ["_law_script"] (spLaw K T) := by
  refine F.ok scLaw (fun vs H Q E h => ?_) (fun A outer s Hs vs Q E hr h => ?_)
  · obtain ⟨sc, ns, rfl, _⟩ := h
    rfl
  · obtain ⟨sc, ns, rfl, hsc, hT, k⟩ := h
    have nd := scLaw.nd
    have hu := hu_of hr
    have hu64 := hr.units
    have M := X9.M
    have RR := X9.RR
    have ET := X9.ET
    have J0 := X9.J0
    have J2 := X9.J2
    have J4 := X9.J4
    obtain ⟨_, _, BDi, GDi⟩ := X9.dice
    obtain ⟨_, _, BNe, GNe⟩ := X9.next
    obtain ⟨_, _, BPi, GPi⟩ := X9.pick
    obtain ⟨_, _, BPa, GPa⟩ := X9.parts
    obtain ⟨_, _, BMa, GMa⟩ := X9.made
    obtain ⟨_, _, BLe, GLe⟩ := X9.lets
    obtain ⟨_, _, BRo, GRo⟩ := X9.rof
    have cr := X9.cr
    have cm := X9.cm
    obtain ⟨_, bO, GO⟩ := X9.ofu
    obtain ⟨_, bOX, GOX⟩ := X9.ofx
    have hn := X9.nf
    have hns := X9.nfs
    obtain ⟨fE, _, sE, iE, bE, GE, GES⟩ := X9.eq
    obtain ⟨fL, _, sL, iL, bL, GL⟩ := X9.len
    obtain ⟨fG, _, sG, iG, jG, bG, GG⟩ := X9.get
    obtain ⟨fH, _, sH, iH, bH, GH⟩ := X9.has
    obtain ⟨fM, _, MM, bM, GM⟩ := X9.mul
    obtain ⟨fW, MW, GW⟩ := X9.wid
    obtain ⟨dU, PU, bU, GU⟩ := X9.units
    obtain ⟨dS, PS, bS, GS⟩ := X9.secs
    obtain ⟨_, _, WT⟩ := X9.told
    have room : ∀ n, n ≤ 10 → Room n (A.deeper (PyProof.Rows.envOfC "law" (defScope sLaw) s.heap.objs.size f (.ref c))) := fun n h => hr.mono h
    have hr1 := room 1 (by decide)
    have hr2 := room 2 (by decide)
    have hr3 := room 3 (by decide)
    have hr4 := room 4 (by decide)
    have hr5 := room 5 (by decide)
    have hr6 := room 6 (by decide)
    have hr8 := room 8 (by decide)
    have hr10 : Room (8 + 2) (A.deeper (PyProof.Rows.envOfC "law" (defScope sLaw) s.heap.objs.size f (.ref c))) := room 10 (by decide)
    refine ⟨_, (pss_cons (ps_set (i := 1) nd rfl (.inl rfl) (pe_call GDi hr1 (by rfl) BDi.at_ BDi.fn.kp BDi.bd .nil pass0 (pa_cons (pv 0) pa_nil))) (pss_cons (ps_for PassesOwn.never rfl (pi_range1 (by rfl) M.range (pa_cons pe_int pa_nil)) (pg_name (i := 2) nd rfl (.inl rfl)) (pss_cons (ps_set (i := 3) nd rfl (.inl rfl) (pe_call GPa hr3 (by rfl) BPa.at_ BPa.fn.kp BPa.bd .nil pass0 (pa_cons (pv 1) (pa_cons pe_int (pa_cons pe_int pa_nil))))) (pss_cons (ps_asg (pe_tup (pa_cons (pe_call GMa hr6 (by rfl) BMa.at_ BMa.fn.kp BMa.bd .nil pass0 (pa_cons (pv 3) pa_nil)) (pa_cons (pe_call GLe hr1 (by rfl) BLe.at_ BLe.fn.kp BLe.bd .nil pass0 (pa_cons (pv 3) pa_nil)) pa_nil))) (pg_tup rfl (pgs_cons (pg_name (i := 4) nd rfl (.inr rfl)) (pgs_cons (pg_name (i := 5) nd rfl (.inr rfl)) pgs_nil)))) (pss_cons (ps_if (pt_cmpR (op_neD hu64) (pe_tup (pa_cons (pe_prop (pv 4) RR.cl PS GS hr2 bS .nil pass0 rfl) (pa_cons (pe_prop (pv 4) RR.cl PU GU hr2 bU .nil pass0 rfl) (pa_cons (pe_callB (call_lenO sL iL (GL.raw bL .nil) hr2 pass0) (by rfl) M.len boot_len (pa_cons (pv 4) pa_nil)) pa_nil)))) (pe_tup (pa_cons (pe_callTy call_tuple_of (by rfl) M.tuple boot_tTuple (pa_cons (pv 3) pa_nil)) (pa_cons (pv 5) (pa_cons (pe_callB call_len_str (by rfl) M.len boot_len (pa_cons (pv 5) pa_nil)) pa_nil)))) (nomark _)) (pss_one (ps_ret pe_bl)) pss_nil) (pss_cons (ps_set (i := 6) nd rfl (.inl rfl) (ClX.pe_cmeth (pe_glob (v := .ref CR) (by rfl) RR.mgC rfl) cr cm (GO.raw bO .nil) hr5 pass0 (pa_cons (pv 5) pa_nil))) (pss_cons (ps_setLc (i := 7) (own := [("_law_k", 12)]) (g := gName 12) (tt := tTest (tOp rNe (tOp rIxS (tVar 5) (tVar 12)) (tOp rIxS (tVar 5) (tOp (rI0 fun i j => .int (i - j)) (tVar 12) (tC (.int 1)))))) (te := tVar 12) (by rfl) nd rfl rfl (sw_true rfl rfl rfl (by decide +kernel)) (pi_range2 (by rfl) M.range (pa_cons pe_int (pa_cons (pe_callB call_len_str (by rfl) M.len boot_len (pa_cons (pv 5) pa_nil)) pa_nil))) (blkOk_by (N := nLaw) (sc := defScope sLaw) (by decide +kernel)) (fun _ _ _ _ _ => (pg_name (i := 12) nd rfl (.inl rfl))) (fun _ _ _ _ _ => (pts_one (pt_cmpR op_ne (pe_ix ix_str (pv 5) (pv 12) (fun _ _ => rfl)) (pe_ix ix_str (pv 5) (pe_op op_sub (pv 12) pe_int) (fun _ _ => rfl)) (nomark _)))) (fun _ _ _ _ _ => (pv 12))) (pss_cons (ps_if (PW.pt (pw_or (pt_not (pt_cmpR (op_eqO hn sE iE (GE.raw bE .nil) hr1 pass0) (pv 4) (pv 6) (by rfl))) (pw_or (pt_cmpR op_ne (pe_callB call_len_seq (by rfl) M.len boot_len (pa_cons (pe_prop (pv 6) RR.cl PS GS hr2 bS .nil pass0 rfl) pa_nil)) (pe_op op_add (pe_callB call_len_seq (by rfl) M.len boot_len (pa_cons (pv 7) pa_nil)) pe_int) (nomark _)) (pw_or (pt_cmpR (op_eqOS hns sE iE (GES.raw bE .nil) hr1 pass0) (pv 4) (pv 5) (by rfl)) (pw_or1 (pt_not (pt_cmpR (op_eqO hn sE iE (GE.raw bE .nil) hr1 pass0) (pv 6) (pv 4) (by rfl)))))))) (pss_one (ps_ret pe_bl)) pss_nil) (pss_cons (ps_set (i := 8) nd rfl (.inr rfl) (pe_call GPi hr2 (by rfl) BPi.at_ BPi.fn.kp BPi.bd .nil pass0 (pa_cons (pv 1) (pa_cons (pe_lst (pa_cons pe_int (pa_cons (pe_op op_sub (pe_callB call_len_str (by rfl) M.len boot_len (pa_cons (pv 5) pa_nil)) pe_int) (pa_cons (pe_callB call_len_str (by rfl) M.len boot_len (pa_cons (pv 5) pa_nil)) (pa_cons (pe_un un_neg pe_int) (pa_cons pe_non (pa_cons pe_bl (pa_cons (pe_call GNe hr1 (by rfl) BNe.at_ BNe.fn.kp BNe.bd .nil pass0 (pa_cons (pv 1) (pa_cons (pe_callB call_len_str (by rfl) M.len boot_len (pa_cons (pv 5) pa_nil)) pa_nil))) pa_nil)))))))) pa_nil)))) (pss_cons (ps_set (i := 9) nd rfl (.inl rfl) (pe_and (pe_callB call_isi (by rfl) M.isinstance boot_isinstance (pa_cons (pv 8) (pa_cons (pe_bltn (v := .ty "int") (by rfl) M.int boot_tInt rfl) pa_nil))) (pe_and (pe_not (pe_callB call_isi (by rfl) M.isinstance boot_isinstance (pa_cons (pv 8) (pa_cons (pe_bltn (v := .ty "bool") (by rfl) M.bool boot_tBool rfl) pa_nil)))) (pe_one (pe_chain op_le op_lt pe_int (pv 8) (pe_callB call_len_str (by rfl) M.len boot_len (pa_cons (pv 5) pa_nil))))))) (pss_cons (ps_set (i := 10) nd rfl (.inl rfl) (pe_ifExp (pt_val (pv 9)) (pe_dget hu (pe_disp (pps_cons pe_str pe_str (pps_cons pe_str pe_str pps_nil)) rfl rfl (by simp) (by show 2 ≤ 15; decide)) (pe_ix ix_str (pv 5) (pv 8) (fun _ _ => rfl)) (fun _ _ => rfl)) (pe_tup (pa_cons pe_str (pa_cons pe_str pa_nil))))) (pss_cons (ps_if (PW.pt (pw_or (pt_cmpR (op_neD hu64) (pe_told WT (by rfl) (told_gives M ET) hr10 (pe_lamV TB rfl hm hut (lamS2_by (N := nLaw) (sc := defScope sLaw) (by decide +kernel)))) (pv 10) (nomark _)) (pw_or (pt_cmpR op_ne (pe_cmpR (op_inO sH iH (GH.raw bH .nil) hr1 pass0) pe_str (pv 4) (by rfl)) (pe_cmpR op_in_sign pe_str (pv 5) (by rfl)) (nomark _)) (pw_or1 (pt_cmpR (op_inO sH iH (GH.raw bH .nil) hr1 pass0) pe_str (pv 4) (by rfl)))))) (pss_one (ps_ret pe_bl)) pss_nil) (pss_cons (ps_set (i := 11) nd rfl (.inr rfl) (pe_call GPi hr2 (by rfl) BPi.at_ BPi.fn.kp BPi.bd .nil pass0 (pa_cons (pv 1) (pa_cons (pe_lst (pa_cons pe_int (pa_cons pe_int (pa_cons pe_int (pa_cons pe_int (pa_cons pe_int (pa_cons pe_int (pa_cons pe_non (pa_cons pe_bl pa_nil))))))))) pa_nil)))) (pss_cons (ps_set (i := 9) nd rfl (.inl rfl) (pe_and (pe_callB call_isi (by rfl) M.isinstance boot_isinstance (pa_cons (pv 11) (pa_cons (pe_bltn (v := .ty "int") (by rfl) M.int boot_tInt rfl) pa_nil))) (pe_and (pe_not (pe_callB call_isi (by rfl) M.isinstance boot_isinstance (pa_cons (pv 11) (pa_cons (pe_bltn (v := .ty "bool") (by rfl) M.bool boot_tBool rfl) pa_nil)))) (pe_one (pe_chain op_le op_le pe_int (pv 11) pe_int))))) (pss_cons (ps_set (i := 10) nd rfl (.inl rfl) (pe_ifExp (PW.pt (pw_and (pt_val (pv 9)) (pw_and1 (pt_cmpR op_le (pe_op op_mul (pe_callB call_len_seq (by rfl) M.len boot_len (pa_cons (pv 3) pa_nil)) (pv 11)) pe_int (nomark _))))) (pe_op op_repN (pe_callTy call_tuple_of (by rfl) M.tuple boot_tTuple (pa_cons (pv 3) pa_nil)) (pv 11)) (pe_tup (pa_cons pe_str (pa_cons pe_str (pa_cons pe_int pa_nil)))))) (pss_cons (ps_if (pt_cmpR (op_neD hu64) (pe_told WT (by rfl) (told_gives M ET) hr10 (pe_lamD (a := "_law_a") TB rfl hm hut (lamS2_by (N := nLaw) (sc := defScope sLaw) (by decide +kernel)))) (pe_ifExp (pt_val (pv 9)) (pv 10) (pe_tup (pa_cons pe_str (pa_cons pe_str pa_nil)))) (nomark _)) (pss_one (ps_ret pe_bl)) pss_nil) (pss_cons (ps_set (i := 12) nd rfl (.inr rfl) (pe_call GPi hr2 (by rfl) BPi.at_ BPi.fn.kp BPi.bd .nil pass0 (pa_cons (pv 1) (pa_cons (pe_lst (pa_cons pe_int (pa_cons (pe_op op_sub (pe_callB call_len_seq (by rfl) M.len boot_len (pa_cons (pv 3) pa_nil)) pe_int) (pa_cons (pe_callB call_len_seq (by rfl) M.len boot_len (pa_cons (pv 3) pa_nil)) (pa_cons (pe_un un_neg pe_int) (pa_cons pe_non pa_nil)))))) pa_nil)))) (pss_cons (ps_set (i := 10) nd rfl (.inl rfl) (pe_tup (pa_cons pe_str (pa_cons pe_str (pa_cons (pv 12) pa_nil))))) (pss_cons (ps_if (PW.pt (pw_and (pt_cmp (pc_notN (pv 12))) (pw_and1 (pt_chain op_le op_lt pe_int (pv 12) (pe_callB call_len_seq (by rfl) M.len boot_len (pa_cons (pv 3) pa_nil)))))) (pss_one (ps_set (i := 10) nd rfl (.inl rfl) (pe_callTy call_tuple_of (by rfl) M.tuple boot_tTuple (pa_cons (pe_op op_cat (pe_op op_cat (pe_slice sl_list (pv 3) po_none (po_some (pv 12))) (pe_lst (pa_cons (pe_tup (pa_cons pe_str (pa_cons (pe_ix (r := rIxT K) ix_tup (pe_ix (r := rIxL K) ix_list (pv 3) (pv 12) (fun _ _ => rfl)) pe_int (fun _ _ => rfl)) pa_nil))) pa_nil))) (pe_slice sl_list (pv 3) (po_some (pe_op op_add (pv 12) pe_int)) po_none)) pa_nil)))) pss_nil) (pss_cons (ps_set (i := 13) nd rfl (.inl rfl) (pe_told WT (by rfl) (told_gives M ET) hr10 (pe_lamD (a := "_law_b") TB rfl hm hut (lamS2_by (N := nLaw) (sc := defScope sLaw) (by decide +kernel))))) (pss_cons (ps_if (pt_cmpR (op_neD hu64) (pe_slice sl_tup (pv 13) (po_some pe_int) po_none) (pe_slice sl_tup (pv 10) (po_some pe_int) po_none) (nomark _)) (pss_one (ps_ret pe_bl)) pss_nil) (pss_one (ps_if (pt_not (pt_val (pe_call GRo hr8 (by rfl) BRo.at_ BRo.fn.kp BRo.bd .nil pass0 (pa_cons (pv 1) (pa_cons (pv 3) pa_nil))))) (pss_one (ps_ret pe_bl)) pss_nil)))))))))))))))))))))) (pss_cons (ps_set (i := 14) nd rfl (.inr rfl) (pe_op op_add pe_int (pe_call GNe hr1 (by rfl) BNe.at_ BNe.fn.kp BNe.bd .nil pass0 (pa_cons (pv 1) (pa_cons pe_int pa_nil))))) (pss_cons (ps_set (i := 13) nd rfl (.inl rfl) (pe_told WT (by rfl) (told_gives M ET) hr10 (pe_lamD (a := "_law_c") TB rfl hm hut (lamS2_by (N := nLaw) (sc := defScope sLaw) (by decide +kernel))))) (pss_one (ps_ret (pe_cmpR (op_eqD hu64) (pv 13) (pe_ifExp (pt_cmpR op_eq (pv 14) pe_int (nomark _)) pe_str (pe_tup (pa_cons pe_str (pa_cons pe_str (pa_cons pe_int pa_nil))))) (nomark _)))))))), ?_⟩
    refine ⟨_, rfl, sc, ns, rfl, hsc, fun H0 r s0 hr0 R0 => ?_⟩
    have T0 : Tabs T H0 := hT.ext s0
    clear hT hsc s0 hr0
    refine ⟨4, rfl, by decide, by decide, for_it walk_range (fun i σ H1 => ∃ v2 v3 v4 v5 v6 v7 v8 v9 v10 v11 v12 v13, σ = [some (.ref sc), some (.ref r), v2, v3, v4, v5, v6, v7, v8, v9, v10, v11, v12, v13, none] ∧ RowAt K H1 r sc ns ∧ Tabs T H1)
      ⟨_, _, _, _, _, _, _, _, _, _, _, _, rfl, R0, T0⟩ (fun _ _ _ _ _ => True.intro) ?_ ?_⟩
    rotate_left
    · rintro σ H2 ⟨v2, v3, v4, v5, v6, v7, v8, v9, v10, v11, v12, v13, rfl, R2, T2⟩
      obtain ⟨x2, hx2⟩ := R2.lst
      refine ⟨_, rfl, r, sc, ns, 2, rfl, by decide, by decide, R2, fun H3 m k3 R3 hm => ⟨_, _, rfl, rfl, ?_⟩⟩
      have T3 : Tabs T H3 := Tabs.keepL T2 (k3.notlst hx2)
      clear k3 R2 T2 hx2 R3
      refine ⟨T3, fun H4 fl e4 T4 hlam => ?_⟩
      refine ⟨fl, _, fun E => tProp CR (getSp CR "_units") [] L2.E0 (ClX.tCMeth CR (fun vs H Q E => spOfX CR CI (vs ++ []) H Q E) E (tC (.ref CR)) (tCons (tOp rRepS (tC (.str "nw")) (tVar 14)) tNil)), rfl, ?_, ?_, ?_, hlam, ?_⟩
      · exact lamS2_by (N := nLaw) (sc := defScope sLaw) (by decide +kernel)
      · exact fun _ _ _ _ _ _ _ => ⟨_, rfl, fun _ => rfl⟩
      · exact fun A' outer' s' H' E' f' c' hr' => pe_prop (ClX.pe_cmeth (pe_glob (v := .ref CR) (by rfl) RR.mgC rfl) cr cm (GOX.raw bOX .nil) (hr'.mono (by decide)) (passes_call (takes_of rfl rfl rfl rfl) fun _ _ _ _ h => h) (pa_cons (pe_op op_repS pe_str (pv 14)) pa_nil)) RR.cl PU GU (hr'.mono (by decide)) bU .nil pass0 rfl
      have nwl : ("nw" : Str).cps.toList = [false, true].map letterC := by decide +kernel
      have hm2 : m = 0 ∨ m = 1 := by omega
      rcases hm2 with rfl | rfl
      · refine ⟨rfl, _, rfl, "nw", 6, rfl, rfl, by decide, by decide, by decide +kernel, fun u hu => ?_⟩
        have hub : u.cps.toList = (List.replicate 6 [false, true]).flatten.map letterC := by rw [hu, nwl]; rfl
        refine .inl ⟨u, (List.replicate 6 [false, true]).flatten, rfl, hub, by decide, secsOk_runs2 (by decide) (by decide) (by decide +kernel), fun H5 p5 s5 hp5 rd5 => ?_⟩
        obtain ⟨dp, at_, w5, ap, _, cp⟩ := id rd5
        refine ⟨p5, dp, _, rfl, ap, p5, dp, _, _, rfl, ap, rf_units _ _, ?_⟩
        have hw5 : w5 = "nwnwnwnwnwnw" := str_ext (by rw [cp]; decide +kernel)
        subst hw5
        refine ⟨_, rfl, _, rfl, rfl, _, rfl, ?_⟩
        rw [show decide ((fun i j => V.int (i + j)) (6 : Int) ((0 : Nat) : Int) = V.int 6) = true from by decide +kernel]
        have shN : Shp 0 (.str "nwnwnwnwnwnw") := ⟨by decide +kernel, Nat.le_refl _⟩
        refine iteT ⟨.str "nwnwnwnwnwnw", .str "nwnwnwnwnwnw", .str _, .str _, shN.ok (by decide), shN.ok (by decide), ?_⟩
        rw [shN.same]
        exact k _
      · refine ⟨rfl, _, rfl, "nw", 7, rfl, rfl, by decide, by decide, by decide +kernel, fun u hu => ?_⟩
        have hub : u.cps.toList = (List.replicate 7 [false, true]).flatten.map letterC := by rw [hu, nwl]; rfl
        refine .inr ⟨u, (List.replicate 7 [false, true]).flatten, rfl, hub, by decide, by decide +kernel, by decide +kernel, fun s hs => ?_, fun H5 d fs s5 hd hl => ⟨CI, 0, .int 12, rfl, J0, by decide, .inr ⟨d, fs, rfl, hd⟩, .inr ⟨d, fs, rfl, hd, hl⟩, fun H6 t s6 ht => ?_⟩⟩
        · have := runsOf_bound _ s hs
          exact ⟨this.1, Nat.le_trans this.2 (by decide)⟩
        refine ⟨_, rfl, _, rfl, rfl, _, rfl, ?_⟩
        rw [show decide ((fun i j => V.int (i + j)) (6 : Int) ((1 : Nat) : Int) = V.int 6) = false from by decide +kernel]
        refine iteF ⟨by show 3 ≤ sizeLine; decide, fun t2 ht2 => ?_⟩
        have s7 := sameNew ht2 (.tup [V.str "error", V.str "InvalidRoad", V.int 12])
        refine ⟨_, _, dp_eRoad ⟨t, rfl, s7 _ _ ht⟩, dp_eRoad ⟨t2, rfl, upd_same⟩, shp_eRoad.ok (by decide), shp_eRoad.ok (by decide), ?_⟩
        rw [shp_eRoad.same]
        exact k _
    clear R0 T0
    rintro turn x σ Hz H1 hturn ⟨v2, v3, v4, v5, v6, v7, v8, v9, v10, v11, v12, v13, rfl, R1, T1⟩ ⟨e, ex⟩
    subst e ex
    obtain ⟨x1, hx1⟩ := R1.lst
    refine ⟨_, rfl, r, sc, ns, 4, 9, rfl, by decide, by decide, by decide, by decide, R1, fun H2 l secs k2 R2 hl nlr rn2 l1 l4 hd => ?_⟩
    have T2 : Tabs T H2 := Tabs.keepL T1 (k2.notlst hx1)
    clear k2 R1 T1 hx1 hl
    have SO : SecsOk secs := ⟨fun z => by rw [z] at l1; simp at l1, by omega, fun s hs => by have := hd s hs; omega⟩
    refine ⟨_, rfl, l, secs, rfl, rn2, SO, fun H3 p s3 hp rd3 => ?_⟩
    refine ⟨_, rfl, l, secs, rfl, rn2.ext2 (ExtN.same s3), SO, fun H4 u s4 hu4 => ?_⟩
    refine ⟨by show 2 ≤ sizeLine; decide, fun tp htp => ⟨tp, _, rfl, SqT.of upd_same, rfl, _, _, rfl, _, _, rfl, rfl, ?_⟩⟩
    have s5 := s3.trans (s4.trans (sameNew htp (.tup [V.ref p, V.str u])))
    have F5 : LawB K CR T (upd H4 tp (.tup [V.ref p, V.str u])) r sc l p ns secs := ⟨R2.same s5, rn2.ext2 (ExtN.same s5), nlr, rd3.ext2 (ExtN.same (s4.trans (sameNew htp (.tup [V.ref p, V.str u])))), T2.ext s5⟩
    generalize upd H4 tp (.tup [V.ref p, V.str u]) = H5 at F5 ⊢
    clear s5 s4 s3 htp hp R2 T2 rn2 rd3 nlr
    -- the units
    obtain ⟨bs, hbs⟩ : ∃ bs, bs = kindsL secs := ⟨_, rfl⟩
    have ubs : unitsL secs = bs.map letterC := by rw [units_kinds, hbs]
    have hub : u.cps.toList = bs.map letterC := by rw [hu4, ubs]
    have ulen : (unitsL secs).length = bs.length := by rw [ubs, List.length_map]
    have bl : bs.length ≤ 36 := by
      rw [hbs]
      exact kinds_most (m := 4) (n := 9) l4 fun s hs => (hd s hs).2
    have bs1 : 1 ≤ bs.length := by
      rw [hbs]
      cases secs with
      | nil => simp at l1
      | cons s q =>
        have := (hd s List.mem_cons_self).1
        show 1 ≤ (List.replicate s.2 s.1 ++ kindsL q).length
        rw [List.length_append, List.length_replicate]
        omega
    have ul : u.length = bs.length := by rw [str_len_toList, hub, List.length_map]
    have lb := line_big
    have hlz : (unitsL secs).length ≤ sizeLine := by omega
    have hz : u.length ≤ sizeLine := by omega
    obtain ⟨dp, at_, up, ap, ⟨ts, a2, a3, a4⟩, cp⟩ := id F5.rd
    obtain rfl : u = up := str_ext (by rw [hu4, cp])
    clear cp hu4
    obtain ⟨us, u1, u2, u3⟩ := id F5.rn
    -- its sections, its units, its length
    refine ⟨_, rfl, p, dp, _, rfl, ap, p, dp, _, _, rfl, ap, rf_sections _ _, ?_⟩
    refine ⟨_, rfl, p, dp, _, rfl, ap, p, dp, _, _, rfl, ap, rf_units _ _, ?_⟩
    refine ⟨_, rfl, p, dp, _, rfl, ap, p, secs, rfl, F5.rd, SO, _, rfl, hlz, ?_⟩
    refine ⟨by show 3 ≤ sizeLine; decide, fun t1 ht1 => ?_⟩
    have q1 := sameNew ht1 (.tup [V.ref at_, V.str u, V.int ((unitsL secs).length : Nat)])
    refine ⟨_, rfl, l, _, rfl, .inl ⟨SqL.of (q1 _ _ u1), fun t2 ht2 => ?_⟩⟩
    have q2 := sameNew ht2 (.tup (us.map V.ref))
    refine ⟨_, rfl, _, rfl, u, rfl, hz, by show 3 ≤ sizeLine; decide, fun t3 ht3 => ?_⟩
    have q3 := sameNew ht3 (.tup [V.ref t2, V.str u, V.int (u.length : Nat)])
    have q23 := q2.trans q3
    have q123 := q1.trans q23
    have hstr := strOk_units hub
    have shU : Shp 3 (.tuple [.tuple (secs.map secD), .str u, .int ((bs.length : Nat) : Int)]) := shp_tuple fun d hd => by
      rcases List.mem_cons.mp hd with rfl | hd
      · exact shp_secs secs
      rcases List.mem_cons.mp hd with rfl | hd
      · exact ⟨hstr, Nat.zero_le _⟩
      rw [List.mem_singleton.mp hd]
      exact ⟨rfl, Nat.zero_le _⟩
    refine ⟨.tuple [.tuple (secs.map secD), .str u, .int ((bs.length : Nat) : Int)], .tuple [.tuple (secs.map secD), .str u, .int ((bs.length : Nat) : Int)], .tup (SqT.of (q23 _ _ upd_same)) (.cons (.tup (SqT.of (q123 _ _ a2)) (dp_secs a3 fun i t s e1 e2 => q123 _ _ (a4 i t s e1 e2))) (.cons (.str _) (.cons (by rw [ulen]; exact .int _) .nil))), .tup (SqT.of upd_same) (.cons (.tup (SqT.of (q3 _ _ upd_same)) (dp_secs u2 fun i t s e1 e2 => q123 _ _ (u3 i t s e1 e2))) (.cons (.str _) (.cons (by rw [ul]; exact .int _) .nil))), shU.ok (by decide), shU.ok (by decide), _, rfl, ?_⟩
    rw [show (!PyData.eqv (.tuple [.tuple (secs.map secD), .str u, .int ((bs.length : Nat) : Int)]) (.tuple [.tuple (secs.map secD), .str u, .int ((bs.length : Nat) : Int)])) = false by rw [shU.same]; rfl]
    refine iteF ?_
    have F6 := F5.same q123
    generalize upd (upd (upd H5 t1 (.tup [V.ref at_, V.str u, V.int ((unitsL secs).length : Nat)])) t2 (.tup (us.map V.ref))) t3 (.tup [V.ref t2, V.str u, V.int (u.length : Nat)]) = H6 at F6 ⊢
    clear q1 q2 q3 q23 q123 shU ht1 ht2 ht3 F5 u1 u2 u3 us ap a2 a3 a4 ts at_ dp
    -- the road of its units
    have SOr : SecsOk (runsOf bs) := secsOk_runs2 bs1 (by omega) (by rw [runs_rc]; have := rc_kinds secs; rw [← hbs] at this; omega)
    refine ⟨rfl, _, rfl, u, bs, rfl, hub, by omega, SOr, fun H7 p2 s7 hp2 rd2 => ?_⟩
    have F7 := F6.same s7
    clear F6 s7 hp2
    -- where the kind changes
    refine ⟨_, rfl, u, rfl, hz, 1, _, rfl, ⟨by decide, by decide, by omega, by omega⟩, fun D hD => ?_⟩
    have hn : ((u.length : Nat) : Int) - 1 = ((bs.length - 1 : Nat) : Int) := by omega
    rw [hn, Int.toNat_natCast]
    refine lc_it walk_range (fun i H => Same H7 H ∧ ∃ xs, H D = some (.lst xs) ∧ xs.length ≤ i ∧ xs.length + 1 = (runsOf (bs.take (i + 1))).length) ⟨sameNew hD _, [], upd_same, Nat.le_refl _, (runs_one bs1).symm⟩ (fun _ _ _ _ => True.intro) ?_ ?_
    · rintro i x Hz H8 hi ⟨s8, xs, hD8, hxl, hxr⟩ ⟨e, ex⟩
      have ex : x = V.int ((i + 1 : Nat) : Int) := by
        rw [ex]
        show V.int (1 + ((i : Nat) : Int)) = _
        rw [show (1 : Int) + ((i : Nat) : Int) = ((i + 1 : Nat) : Int) by omega]
      subst e ex
      obtain ⟨a, ha⟩ : ∃ a, bs[i]? = some a := ⟨_, List.getElem?_eq_getElem (by omega)⟩
      obtain ⟨b, hb⟩ : ∃ b, bs[i + 1]? = some b := ⟨_, List.getElem?_eq_getElem (by omega)⟩
      have ca : atI u.cps.toList (((i + 1 : Nat) : Int) - 1) = some (letterC a) := by
        rw [show (((i + 1 : Nat) : Int) - 1) = ((i : Nat) : Int) by omega]
        exact atI_nat (by rw [hub, List.getElem?_map, ha]; rfl)
      have cb : atI u.cps.toList ((i + 1 : Nat) : Int) = some (letterC b) := atI_nat (by rw [hub, List.getElem?_map, hb]; rfl)
      have grow := runs_grow ha hb
      refine ⟨rfl, _, rfl, _, rfl, u, _, _, rfl, rfl, hz, cb, _, rfl, _, rfl, _, _, rfl, rfl, u, _, _, rfl, rfl, hz, ca, rfl, _, rfl, ?_⟩
      have hc : (!decide (V.str ⟨#[letterC b]⟩ = V.str ⟨#[letterC a]⟩)) = !decide (a = b) := by cases a <;> cases b <;> decide +kernel
      rw [hc]
      by_cases hab : a = b
      · rw [decide_eq_true hab]
        refine iteF ⟨s8, xs, hD8, by omega, ?_⟩
        rw [grow, if_pos hab]
        exact hxr
      · rw [decide_eq_false hab]
        refine iteT ⟨_, rfl, xs, hD8, by omega, fun b' o' e2 => by (rw [upd_ne (ne_of_none e2 hD)]; exact s8 _ _ e2), xs ++ [_], upd_same, by rw [List.length_append]; show _ + 1 ≤ _; omega, ?_⟩
        rw [grow, if_neg hab, List.length_append]
        show xs.length + 1 + 1 = _
        omega
    rintro H8 ⟨s8, ends, hends, elen, eruns⟩
    have eruns : ends.length + 1 = (runsOf bs).length := by
      rw [eruns, show bs.length - 1 + 1 = bs.length by omega, List.take_length]
    have F8 := F7.same s8
    have rd8 := rd2.ext2 (ExtN.same s8)
    clear F7 s8 rd2 hD hn elen
    obtain ⟨dp, at_, up, ap, ⟨ts, a2, a3, a4⟩, cp⟩ := id F8.rd
    obtain rfl : u = up := str_ext (by rw [hub, cp, ubs])
    obtain ⟨dq, bt_, uq, bp, ⟨ts2, b2, b3, b4⟩, cq⟩ := id rd8
    have hts2 : (ts2.map V.ref).length = (runsOf bs).length := by rw [List.length_map, b3]
    -- the roads are alike
    refine ⟨_, rfl, _, rfl, p, dp, _, p2, dq, _, rfl, rfl, ap, bp, p, p2, secs, runsOf bs, rfl, F8.rd, rd8, _, rfl, ?_⟩
    rw [kinds_runs, decide_eq_true hbs.symm]
    refine iteF ?_
    refine ⟨_, rfl, p2, dq, _, rfl, bp, p2, dq, _, _, rfl, bp, rf_sections _ _, bt_, _, rfl, .inr (SqT.of b2), _, rfl, D, _, rfl, .inl (SqL.of hends), _, _, rfl, rfl, rfl, _, rfl, ?_⟩
    rw [hts2, show (!decide (V.int ((runsOf bs).length : Nat) = V.int (((ends.length : Nat) : Int) + 1))) = false by rw [← eruns]; simp]
    refine iteF ?_
    refine ⟨_, rfl, _, rfl, p, dp, _, u, rfl, rfl, ap, p, u, secs, rfl, F8.rd, _, rfl, iteF ?_⟩
    refine ⟨_, rfl, _, rfl, p2, dq, _, p, dp, _, rfl, rfl, bp, ap, p2, p, runsOf bs, secs, rfl, rd8, F8.rd, _, rfl, ?_⟩
    rw [kinds_runs, decide_eq_true hbs]
    refine iteF ?_
    clear rd8 bp b2 b3 b4 cq ts2 hts2 uq bt_ hends eruns ap a2 a3 a4 cp ts at_ dp dq
    -- a unit
    refine ⟨_, rfl, _, rfl, u, rfl, hz, _, _, rfl, rfl, _, rfl, u, rfl, hz, ?_⟩
    refine ⟨_, rfl, _, rfl, _, rfl, u, rfl, hz, r, sc, ns, u.length, rfl, by omega, by omega, F8.row, fun H9 nx k9 R9 hnx => ⟨by show 7 ≤ sizeLine; decide, fun q hq => ?_⟩⟩
    have F9 := F8.keep k9 R9
    clear F8 k9 R9
    have s10 := sameNew hq (.lst [V.int 0, V.int ((u.length : Nat) - 1), V.int (u.length : Nat), V.int (-1), V.non, V.bl true, V.int (nx : Nat)])
    have hql : upd H9 q (.lst [V.int 0, V.int ((u.length : Nat) - 1), V.int (u.length : Nat), V.int (-1), V.non, V.bl true, V.int (nx : Nat)]) q = some (.lst [V.int 0, V.int ((u.length : Nat) - 1), V.int (u.length : Nat), V.int (-1), V.non, V.bl true, V.int (nx : Nat)]) := upd_same
    have nqr : q ≠ r := (ne_of_none F9.row.lst.choose_spec hq).symm
    have F10 := F9.same s10
    clear F9 s10 hq
    refine ⟨r, sc, ns, q, _, rfl, hql, by show 1 ≤ 7; decide, by show 7 ≤ 1000; decide, nqr, F10.row, fun H11 qi v k11 R11 hv => ?_⟩
    have F11 := F10.keep k11 R11
    clear F10 k11 R11 hql nqr
    have hk : Num3 v := by
      match qi, hv with
      | 0, hv => exact .inl ⟨_, (Option.some.inj hv).symm⟩
      | 1, hv => exact .inl ⟨_, (Option.some.inj hv).symm⟩
      | 2, hv => exact .inl ⟨_, (Option.some.inj hv).symm⟩
      | 3, hv => exact .inl ⟨_, (Option.some.inj hv).symm⟩
      | 4, hv => exact .inr (.inl (Option.some.inj hv).symm)
      | 5, hv => exact .inr (.inr ⟨_, (Option.some.inj hv).symm⟩)
      | 6, hv => exact .inl ⟨_, (Option.some.inj hv).symm⟩
    clear hv qi hnx nx
    have dlt : ∀ n : Int, decide (n < ((u.length : Nat) : Int)) = decide (n ≤ ((unitsL secs).length : Int) - 1) := fun n => by rw [decide_eq_decide, ul, ulen]; omega
    refine good_rd (v := v) (lo := 0) (hi := ((unitsL secs).length : Int) - 1) rfl hk (fun n hn Q' hq => ⟨_, rfl, u, rfl, hz, n, _, rfl, rfl, by show Q' (.bl (decide (n < ((u.length : Nat) : Int)))) _; rw [dlt]; exact hq⟩) ?_
    refine unit_due (v := v) (secs := secs) (by rw [hub, ubs]) hz rfl rfl rfl fun y H12 s12 w12 => ?_
    have F12 := F11.same s12
    clear F11 s12 dlt
    refine ⟨F12.tb, fun H13 fl e13 T13 hlam => ?_⟩
    have F13 := F12.ext e13 T13
    have w13 := w12.ext e13
    clear F12 e13 T13 w12
    refine ⟨fl, _, fun E => tSubO CR (fun vs H Q E => spRGetX CR CN (vs ++ []) H Q E) E (tVar 4) (tVar 8), rfl, ?_, ?_, ?_, hlam, ?_⟩
    · exact lamS2_by (N := nLaw) (sc := defScope sLaw) (by decide +kernel)
    · exact fun _ _ _ _ _ _ => rfl
    · exact fun A' outer' s' H' E' f' c' hr' => pe_subO sG iG jG (GG.raw bG .nil) (hr'.mono (by decide)) (passes_call (takes_of rfl rfl rfl rfl) fun _ _ _ _ h => h) (pv 4) (pv 8)
    refine unit_told J4 rfl rfl F13.rd SO hk fun x H14 s14 w14 => ?_
    have F14 := F13.same s14
    obtain ⟨d, d1, d2, sh⟩ := unit_same (K := K) w14 (w13.ext (ExtN.same s14))
    clear F13 s14 w13 w14 hlam
    refine ⟨_, rfl, d, d, d1, d2, sh.ok (by decide), sh.ok (by decide), _, rfl, ?_⟩
    rw [show (!PyData.eqv d d) = false by rw [sh.same]; rfl]
    refine iteF ?_
    clear d1 d2 sh d x
    -- the kinds
    obtain ⟨dp, at_, up, ap, rst⟩ := id F14.rd
    refine ⟨_, rfl, p, dp, _, rfl, ap, p, secs, _, rfl, F14.rd, SO, fun H15 s15 => ⟨_, rfl, _, rfl, 119, u, rfl, rfl, rfl, _, rfl, ?_⟩⟩
    rw [Bool.bne_false, has_wide secs (fun s hs => (SO.len s hs).1), show decide (119 ∈ u.cps.toList) = decide (119 ∈ unitsL secs) by rw [hub, ubs], kinds_bit rfl]
    refine iteF ?_
    have F15 := F14.same s15
    refine ⟨_, rfl, p, dp, _, rfl, s15 _ _ ap, p, secs, _, rfl, F15.rd, SO, fun H16 s16 => ⟨_, rfl, _, rfl, ?_⟩⟩
    rw [has_n]
    refine iteF ?_
    have F16 := F15.same s16
    clear F14 F15 s15 s16 ap rst dp at_ up
    -- times
    refine ⟨_, rfl, by show 8 ≤ sizeLine; decide, fun q hq => ?_⟩
    have s17 := sameNew hq (.lst [V.int 0, V.int 1, V.int 2, V.int 3, V.int 12, V.int 13, V.non, V.bl true])
    have hql : upd H16 q (.lst [V.int 0, V.int 1, V.int 2, V.int 3, V.int 12, V.int 13, V.non, V.bl true]) q = some (.lst [V.int 0, V.int 1, V.int 2, V.int 3, V.int 12, V.int 13, V.non, V.bl true]) := upd_same
    have nqr : q ≠ r := (ne_of_none F16.row.lst.choose_spec hq).symm
    have F17 := F16.same s17
    clear F16 s17 hq
    refine ⟨r, sc, ns, q, _, rfl, hql, by show 1 ≤ 8; decide, by show 8 ≤ 1000; decide, nqr, F17.row, fun H18 qi tv k18 R18 hv => ?_⟩
    have F18 := F17.keep k18 R18
    clear F17 k18 R18 hql nqr
    have hkt : Num3 tv := by
      match qi, hv with
      | 0, hv => exact .inl ⟨_, (Option.some.inj hv).symm⟩
      | 1, hv => exact .inl ⟨_, (Option.some.inj hv).symm⟩
      | 2, hv => exact .inl ⟨_, (Option.some.inj hv).symm⟩
      | 3, hv => exact .inl ⟨_, (Option.some.inj hv).symm⟩
      | 4, hv => exact .inl ⟨_, (Option.some.inj hv).symm⟩
      | 5, hv => exact .inl ⟨_, (Option.some.inj hv).symm⟩
      | 6, hv => exact .inr (.inl (Option.some.inj hv).symm)
      | 7, hv => exact .inr (.inr ⟨_, (Option.some.inj hv).symm⟩)
    clear hv qi
    refine good_rd (v := tv) (lo := 1) (hi := 12) rfl hkt (fun n hn Q' hq => ⟨n, 12, rfl, rfl, hq⟩) ?_
    refine times_due (v := tv) F18.rn SO rfl rfl rfl fun y2 H19 s19 w19 => ?_
    have F19 := F18.same s19
    clear F18 s19
    refine ⟨F19.tb, fun H20 fl e20 T20 hlam => ?_⟩
    have F20 := F19.ext e20 T20
    have w20 := w19.ext e20
    clear F19 e20 T20 w19
    refine ⟨fl, _, fun E => tProp CR (getSp CR "_sections") [] L2.E0 (tOp (rMulV CR (fun vs H Q E => spRMulX CR CN CI (vs ++ []) H Q E) E) (tVar 4) (tVar 11)), rfl, ?_, ?_, ?_, hlam, ?_⟩
    · exact lamS2_by (N := nLaw) (sc := defScope sLaw) (by decide +kernel)
    · exact fun _ _ _ _ _ _ _ => ⟨_, rfl, fun _ => rfl⟩
    · exact fun A' outer' s' H' E' f' c' hr' => pe_prop (pe_op (op_mulV MM (GM.raw bM .nil) (hr'.mono (by decide)) (passes_call (takes_of rfl rfl rfl rfl) fun _ _ _ _ h => h)) (pv 4) (pv 11)) RR.cl PS GS (hr'.mono (by decide)) bS .nil pass0 rfl
    refine times_told J0 J4 rfl rfl F20.rd SO hkt fun x H21 e21 T21 w21 => ?_
    refine times_due2 (w20.ext e21) rfl rfl fun y3 H22 s22 w22 => ?_
    have F22 := (F20.ext e21 (T21 _ F20.tb)).same s22
    obtain ⟨d, d1, d2, sh⟩ := times_same (K := K) (w21.ext (ExtN.same s22)) w22
    clear F20 e21 T21 w21 w20 s22 w22 hlam
    refine ⟨d, d, d1, d2, sh.ok (by decide), sh.ok (by decide), _, rfl, ?_⟩
    rw [show (!PyData.eqv d d) = false by rw [sh.same]; rfl]
    refine iteF ?_
    clear d1 d2 sh d x
    -- widened
    obtain ⟨us, u1, u2, u3⟩ := id F22.rn
    refine ⟨_, rfl, _, rfl, l, _, rfl, .inl (SqL.of u1), _, _, rfl, rfl, _, rfl, l, _, rfl, .inl (SqL.of u1), _, rfl, by show 5 ≤ sizeLine; decide, fun q hq => ?_⟩
    have hus : (us.map V.ref).length = secs.length := by rw [List.length_map, u2]
    rw [hus]
    have s23 := sameNew hq (.lst [V.int 0, V.int ((secs.length : Nat) - 1), V.int (secs.length : Nat), V.int (-1), V.non])
    have hql : upd H22 q (.lst [V.int 0, V.int ((secs.length : Nat) - 1), V.int (secs.length : Nat), V.int (-1), V.non]) q = some (.lst [V.int 0, V.int ((secs.length : Nat) - 1), V.int (secs.length : Nat), V.int (-1), V.non]) := upd_same
    have nqr : q ≠ r := (ne_of_none F22.row.lst.choose_spec hq).symm
    have F23 := F22.same s23
    clear F22 s23 hq u1 u2 u3 us hus
    refine ⟨r, sc, ns, q, _, rfl, hql, by show 1 ≤ 5; decide, by show 5 ≤ 1000; decide, nqr, F23.row, fun H24 qi kv k24 R24 hv => ?_⟩
    have F24 := F23.keep k24 R24
    clear F23 k24 R24 hql nqr
    have hkk : (∃ i, kv = .int i) ∨ kv = .non := by
      match qi, hv with
      | 0, hv => exact .inl ⟨_, (Option.some.inj hv).symm⟩
      | 1, hv => exact .inl ⟨_, (Option.some.inj hv).symm⟩
      | 2, hv => exact .inl ⟨_, (Option.some.inj hv).symm⟩
      | 3, hv => exact .inl ⟨_, (Option.some.inj hv).symm⟩
      | 4, hv => exact .inr (Option.some.inj hv).symm
    have hk3 : Num3 kv := hkk.elim .inl fun h => .inr (.inl h)
    clear hv qi
    refine ⟨_, rfl, by show 3 ≤ sizeLine; decide, fun te hte => ?_⟩
    have s25 := sameNew hte (.tup [V.str "error", V.str "UnknownSection", kv])
    have F25 := F24.same s25
    refine wid_due (v := kv) F25.rn SO hkk rfl rfl rfl ⟨te, rfl, upd_same⟩ fun y4 H26 s26 w26 => ?_
    have F26 := F25.same s26
    clear F24 F25 s25 s26 hte
    refine ⟨F26.tb, fun H27 fl e27 T27 hlam => ?_⟩
    have F27 := F26.ext e27 T27
    have w27 := w26.ext e27
    clear F26 e27 T27 w26
    refine ⟨fl, _, fun E => tProp CR (getSp CR "_sections") [] L2.E0 (tMethR CR "widened" (spWidJ CR CS) E (tMethR CR "widened" (spWidJ CR CS) E (tMethR CR "widened" (spWidJ CR CS) E (tVar 4) (tCons (tC (.int 0)) (tCons (tVar 12) tNil))) (tCons (tVar 12) tNil)) tNil), rfl, ?_, ?_, ?_, hlam, ?_⟩
    · exact lamS2_by (N := nLaw) (sc := defScope sLaw) (by decide +kernel)
    · exact fun _ _ _ _ _ _ _ => ⟨_, rfl, fun _ => rfl⟩
    · exact fun A' outer' s' H' E' f' c' hr' => pe_prop (pe_methR0 (pe_methR (pe_methR (pv 4) RR.cl MW GW (hr'.mono (by decide)) (passes_call (takes_of rfl rfl rfl rfl) fun _ _ _ _ h => h) (pa_cons pe_int (pa_cons (pv 12) pa_nil))) RR.cl MW GW (hr'.mono (by decide)) (passes_call (takes_of rfl rfl rfl rfl) fun _ _ _ _ h => h) (pa_cons (pv 12) pa_nil)) RR.cl MW GW (hr'.mono (by decide)) (passes_call (takes_of rfl rfl rfl rfl) fun _ _ _ _ h => h)) RR.cl PS GS (hr'.mono (by decide)) bS .nil pass0 rfl
    refine wid_told J2 rfl rfl F27.rd SO hk3.plain fun x H28 e28 T28 w28 => ?_
    have F28 := F27.ext e28 (T28 _ F27.tb)
    obtain ⟨a, b, xs, ys, d, rfl, rfl, ha, hb, lx, ly, sh, dd⟩ := wid_same (K := K) SO hk3 w28 (w27.ext e28)
    clear F27 e28 T28 w27 w28 hlam
    have whole : ∀ m : Nat, 1 ≤ m → ¬ (HT.sIx m 0 (some (1 : Int)) = 0 ∧ HT.sIx m m none = m) := fun m hm z => by
      have := z.1
      rw [show (1 : Int) = ((1 : Nat) : Int) from rfl, HT.sIx_nat] at this
      omega
    refine ⟨_, rfl, _, rfl, a, xs, rfl, SqT.of ha, whole _ lx, fun z1 hz1 => ?_⟩
    rw [show (some (1 : Int)) = some ((1 : Nat) : Int) from rfl, cut_from lx]
    have s29 := sameNew hz1 (.tup (xs.drop 1))
    refine ⟨_, rfl, _, rfl, b, ys, rfl, SqT.of (s29 _ _ hb), whole _ ly, fun z2 hz2 => ?_⟩
    rw [show (some (1 : Int)) = some ((1 : Nat) : Int) from rfl, cut_from ly]
    have s30 := sameNew hz2 (.tup (ys.drop 1))
    obtain ⟨d1, d2⟩ := dd _ z1 z2 (s29.trans s30) (s30 _ _ upd_same) upd_same
    have F30 := (F28.same s29).same s30
    refine ⟨d, d, d1, d2, sh.ok (by decide), sh.ok (by decide), _, rfl, ?_⟩
    rw [show (!PyData.eqv d d) = false by rw [sh.same]; rfl]
    refine iteF ?_
    refine ⟨_, rfl, _, rfl, r, sc, l, ns, secs, rfl, F30.rn, SO, l4, F30.nl, F30.row, F30.tb, fun H31 R31 T31 => ⟨_, rfl, iteF ⟨_, _, _, _, _, _, _, _, _, _, _, _, rfl, R31, T31⟩⟩⟩
end
end Sl

set_option Elab.async false
set_option linter.all false
set_option maxRecDepth 100000
set_option maxHeartbeats 2000000
namespace Sl
open PySem PySem.Spec L2 OwnR LamX
theorem FbC.fb {K : PySem.W.Frag} {mg : Str → Option Value} {x : Str} {st : Stmt} {ps : List Str} {f c : Addr} {fd : FuncData} (B : FbC K mg x st ps f fd c) : Fb K mg x st ps f fd :=
  ⟨⟨let ⟨oc, od, kV, doc, pm, an, ct, osl, e, lk, hcd⟩ := B.fn.ex; ⟨oc, od, kV, doc, pm, an, .ref c, ct, osl, e, lk, hcd⟩, B.fn.kp⟩, B.at_, B.bd⟩
section
variable {P : Program} {w : World} {K : PySem.W.Frag} {mg : Str → Option Value} {base : Heap}
theorem scIInit : FnScope nSInit ["self", "index"] (defScope sInvalidRoadInit) := ⟨rfl, rfl, rfl, by decide +kernel, rfl, by decide +kernel, by decide +kernel⟩
theorem ok_iInit {f C : Addr} {fd : FuncData} (F : Fun K "__init__" "InvalidRoad.__init__" sInvalidRoadInit f fd) (T : OexC K C) (hno : PySem.W.findIn K (.ref C) "index" = some none) : FnOk P w K mg base CX0 1 f fd ["self", "index"] (spEInit C "index") := by
  refine F.ok scIInit (fun vs H Q E h => ?_) (fun cdv A outer s H vs Q E hr h => ?_)
  · obtain ⟨a, v, rfl, _⟩ := h
    rfl
  · obtain ⟨a, v, rfl, ha, k⟩ := h
    have nd := scIInit.nd
    refine ⟨_, pss_one (ps_ost (pv 0) (pv 1)), ?_⟩
    exact ⟨_, rfl, _, rfl, a, C, rfl, T, hno, .inl ⟨ha, fun dx h1 h2 => k dx h1 h2⟩⟩
end
theorem kit_tyR {K : PySem.W.Frag} {D : Addr} {b : Bool} {T : String} (c : PySem.W.isClsIn K D = true) (t : PySem.W.typeIn K (.ref D) = some (.type "type")) (h : PySem.W.subIn K (.type T) (.ref D) = some b) : PySem.W.kitOne K (.type T) (.ref D) = some b := by
  show (if (Value.type T == Value.ref D) = true then some true else PySem.W.kitCls K (.type T) (.ref D)) = some b
  have e : (Value.type T == Value.ref D) = false := by
    refine Bool.eq_false_iff.mpr fun q => ?_
    have := beq_iff_eq.mp q
    cases this
  rw [e]
  have c2 : (PySem.W.clsIn K D).isSome = true := c
  have e2 : ((PySem.W.clsIn K D).isSome && PySem.W.typeIn K (.ref D) == some (.type "type")) = true := by rw [c2, t] <;> rfl
  show (if ((PySem.W.clsIn K D).isSome && PySem.W.typeIn K (.ref D) == some (.type "type")) = true then PySem.W.subIn K (.type T) (.ref D) else none) = some b
  rw [if_pos e2, h]
end Sl

set_option Elab.async false
set_option linter.all false
set_option maxRecDepth 100000
set_option maxHeartbeats 4000000
namespace Sl
open PySem PySem.Spec L2 OwnR LamX
theorem tabS0 {H : Hp} {P : Addr} {q : Str} (h : H P = some (.tbl #[])) : TabS H P q := ⟨#[], h, by first | exact trivial | simp [PySem.W.TriplesOk] | decide, fun pos cv e => by first | cases e | simp [codeAmong] at e⟩
theorem all_mk {l : PySem.W.OpenLaw} {w : World} {K : PySem.W.Frag} {h : Heap} {mg : Str → Option Value} {fa CR : Addr} (X : K.In h) (G : h.Ns mainGlobals mg) (hfa : mg "law" = some (.ref fa))
    {fin : Addr} {odin anin : Option Addr} {slin : Array (Option Value)} {ocin kVin dcin pmin ctin : Value} {cdin : Value}
    {fis : Addr} {odis anis : Option Addr} {slis : Array (Option Value)} {ocis kVis dcis pmis ctis : Value} {cdis : Value}
    {fuo : Addr} {oduo anuo : Option Addr} {sluo : Array (Option Value)} {ocuo kVuo dcuo pmuo ctuo : Value} {cduo : Value}
    {fru : Addr} {odru anru : Option Addr} {slru : Array (Option Value)} {ocru kVru dcru pmru ctru : Value} {cdru : Value}
    {fdi : Addr} {oddi andi : Option Addr} {sldi : Array (Option Value)} {ocdi kVdi dcdi pmdi ctdi : Value} {cddi : Value}
    {fne : Addr} {odne anne : Option Addr} {slne : Array (Option Value)} {ocne kVne dcne pmne ctne : Value} {cdne : Value}
    {fpi : Addr} {odpi anpi : Option Addr} {slpi : Array (Option Value)} {ocpi kVpi dcpi pmpi ctpi : Value} {cdpi : Value}
    {fto : Addr} {odto anto : Option Addr} {slto : Array (Option Value)} {octo kVto dcto pmto ctto : Value} {cdto : Value}
    {fpa : Addr} {odpa anpa : Option Addr} {slpa : Array (Option Value)} {ocpa kVpa dcpa pmpa ctpa : Value} {cdpa : Value}
    {fma : Addr} {odma anma : Option Addr} {slma : Array (Option Value)} {ocma kVma dcma pmma ctma : Value} {cdma : Value}
    {fle : Addr} {odle anle : Option Addr} {slle : Array (Option Value)} {ocle kVle dcle pmle ctle : Value} {cdle : Value}
    {ccro Pro : Addr}
    {fro : Addr} {odro anro : Option Addr} {slro : Array (Option Value)} {ocro kVro dcro pmro ctro : Value}
    {ccla Pla : Addr}
    {fla : Addr} {odla anla : Option Addr} {slla : Array (Option Value)} {ocla kVla dcla pmla ctla : Value}
    {fRi : Addr} {odRi anRi : Option Addr} {slRi : Array (Option Value)} {ocRi kVRi dcRi pmRi ctRi : Value} {cdRi : Value}
    {fRa : Addr} {odRa anRa : Option Addr} {slRa : Array (Option Value)} {ocRa kVRa dcRa pmRa ctRa : Value} {cdRa : Value}
    {fRl : Addr} {odRl anRl : Option Addr} {slRl : Array (Option Value)} {ocRl kVRl dcRl pmRl ctRl : Value} {cdRl : Value}
    {fRe : Addr} {odRe anRe : Option Addr} {slRe : Array (Option Value)} {ocRe kVRe dcRe pmRe ctRe : Value} {cdRe : Value}
    {fRg : Addr} {odRg anRg : Option Addr} {slRg : Array (Option Value)} {ocRg kVRg dcRg pmRg ctRg : Value} {cdRg : Value}
    {fRh : Addr} {odRh anRh : Option Addr} {slRh : Array (Option Value)} {ocRh kVRh dcRh pmRh ctRh : Value} {cdRh : Value}
    {fRm : Addr} {odRm anRm : Option Addr} {slRm : Array (Option Value)} {ocRm kVRm dcRm pmRm ctRm : Value} {cdRm : Value}
    {fRw : Addr} {odRw anRw : Option Addr} {slRw : Array (Option Value)} {ocRw kVRw dcRw pmRw ctRw : Value} {cdRw : Value}
    {pO : Addr} {mc : Value} {rO : List Value}
    {fRo : Addr} {odRo anRo : Option Addr} {slRo : Array (Option Value)} {ocRo kVRo dcRo pmRo ctRo : Value} {cdRo : Value}
    {pRs : Addr} {rRsL : List Value}
    {fRs : Addr} {odRs anRs : Option Addr} {slRs : Array (Option Value)} {ocRs kVRs dcRs pmRs ctRs : Value} {cdRs : Value}
    {pRu : Addr} {rRuL : List Value}
    {fRu : Addr} {odRu anRu : Option Addr} {slRu : Array (Option Value)} {ocRu kVRu dcRu pmRu ctRu : Value} {cdRu : Value}
    {CE CI c1 CS c3 CN : Addr} {nmS qS : Str} {NS : Addr} {bsS : List Value} {snS : List Str} {subS : List Value} {abS : Bool} {colS : Option Bool} {ddS : Option Addr} {u0 u1 u2 u3 u5 : Option Value} {fSi : Addr} {odSi anSi : Option Addr} {slSi : Array (Option Value)} {ocSi kVSi dcSi pmSi cdSi ctSi : Value} {nmI qI : Str} {NI : Addr} {bsI : List Value} {snI : List Str} {subI : List Value} {abI : Bool} {colI : Option Bool} {ddI : Option Addr} {o0 o1 o2 o3 o5 : Option Value} {fIi : Addr} {odIi anIi : Option Addr} {slIi : Array (Option Value)} {ocIi kVIi dcIi pmIi cdIi ctIi : Value} {foI roI foN roN foB roB : Option Value}
    {t0 t1 t2 : Tok} {lp kp : Addr}
    (aR : PySem.W.nsIn K mainGlobals "Road" = some (some (.ref CR)))
    (ain : PySem.W.nsIn K mainGlobals "is_number" = some (some (.ref fin)))
    (lin : K.lookup fin = some ⟨ocin, odin, .func (PySem.W.fnOf "is_number" "is_number" (defArgs sIsNumber) (defBody sIsNumber) (defScope sIsNumber) .none kVin dcin pmin anin cdin ctin), slin⟩)
    (cin : PySem.W.codeIn K cdin "is_number" = true)
    (kin : PySem.W.keepIn K (.ref fin) = true)
    (ais : PySem.W.nsIn K mainGlobals "_is_section" = some (some (.ref fis)))
    (lis : K.lookup fis = some ⟨ocis, odis, .func (PySem.W.fnOf "_is_section" "_is_section" (defArgs sIsSection) (defBody sIsSection) (defScope sIsSection) .none kVis dcis pmis anis cdis ctis), slis⟩)
    (cis : PySem.W.codeIn K cdis "_is_section" = true)
    (kis : PySem.W.keepIn K (.ref fis) = true)
    (auo : PySem.W.nsIn K mainGlobals "_units_of" = some (some (.ref fuo)))
    (luo : K.lookup fuo = some ⟨ocuo, oduo, .func (PySem.W.fnOf "_units_of" "_units_of" (defArgs sUnitsOf) (defBody sUnitsOf) (defScope sUnitsOf) .none kVuo dcuo pmuo anuo cduo ctuo), sluo⟩)
    (cuo : PySem.W.codeIn K cduo "_units_of" = true)
    (kuo : PySem.W.keepIn K (.ref fuo) = true)
    (aru : PySem.W.nsIn K mainGlobals "_runs" = some (some (.ref fru)))
    (lru : K.lookup fru = some ⟨ocru, odru, .func (PySem.W.fnOf "_runs" "_runs" (defArgs sRuns) (defBody sRuns) (defScope sRuns) .none kVru dcru pmru anru cdru ctru), slru⟩)
    (cru : PySem.W.codeIn K cdru "_runs" = true)
    (kru : PySem.W.keepIn K (.ref fru) = true)
    (adi : PySem.W.nsIn K mainGlobals "_law_dice" = some (some (.ref fdi)))
    (ldi : K.lookup fdi = some ⟨ocdi, oddi, .func (PySem.W.fnOf "_law_dice" "_law_dice" (defArgs sDice) (defBody sDice) (defScope sDice) .none kVdi dcdi pmdi andi cddi ctdi), sldi⟩)
    (cdi : PySem.W.codeIn K cddi "_law_dice" = true)
    (kdi : PySem.W.keepIn K (.ref fdi) = true)
    (ane : PySem.W.nsIn K mainGlobals "_law_next" = some (some (.ref fne)))
    (lne : K.lookup fne = some ⟨ocne, odne, .func (PySem.W.fnOf "_law_next" "_law_next" (defArgs sNext) (defBody sNext) (defScope sNext) .none kVne dcne pmne anne cdne ctne), slne⟩)
    (cne : PySem.W.codeIn K cdne "_law_next" = true)
    (kne : PySem.W.keepIn K (.ref fne) = true)
    (api : PySem.W.nsIn K mainGlobals "_law_pick" = some (some (.ref fpi)))
    (lpi : K.lookup fpi = some ⟨ocpi, odpi, .func (PySem.W.fnOf "_law_pick" "_law_pick" (defArgs sPick) (defBody sPick) (defScope sPick) .none kVpi dcpi pmpi anpi cdpi ctpi), slpi⟩)
    (cpi : PySem.W.codeIn K cdpi "_law_pick" = true)
    (kpi : PySem.W.keepIn K (.ref fpi) = true)
    (ato : PySem.W.nsIn K mainGlobals "_law_told" = some (some (.ref fto)))
    (lto : K.lookup fto = some ⟨octo, odto, .func (PySem.W.fnOf "_law_told" "_law_told" (defArgs sTold) (defBody sTold) (defScope sTold) .none kVto dcto pmto anto cdto ctto), slto⟩)
    (cto : PySem.W.codeIn K cdto "_law_told" = true)
    (kto : PySem.W.keepIn K (.ref fto) = true)
    (apa : PySem.W.nsIn K mainGlobals "_law_parts" = some (some (.ref fpa)))
    (lpa : K.lookup fpa = some ⟨ocpa, odpa, .func (PySem.W.fnOf "_law_parts" "_law_parts" (defArgs sParts) (defBody sParts) (defScope sParts) .none kVpa dcpa pmpa anpa cdpa ctpa), slpa⟩)
    (cpa : PySem.W.codeIn K cdpa "_law_parts" = true)
    (kpa : PySem.W.keepIn K (.ref fpa) = true)
    (ama : PySem.W.nsIn K mainGlobals "_law_made" = some (some (.ref fma)))
    (lma : K.lookup fma = some ⟨ocma, odma, .func (PySem.W.fnOf "_law_made" "_law_made" (defArgs sMade) (defBody sMade) (defScope sMade) .none kVma dcma pmma anma cdma ctma), slma⟩)
    (cma : PySem.W.codeIn K cdma "_law_made" = true)
    (kma : PySem.W.keepIn K (.ref fma) = true)
    (ale : PySem.W.nsIn K mainGlobals "_law_letters" = some (some (.ref fle)))
    (lle : K.lookup fle = some ⟨ocle, odle, .func (PySem.W.fnOf "_law_letters" "_law_letters" (defArgs sLetters) (defBody sLetters) (defScope sLetters) .none kVle dcle pmle anle cdle ctle), slle⟩)
    (cle : PySem.W.codeIn K cdle "_law_letters" = true)
    (kle : PySem.W.keepIn K (.ref fle) = true)
    (aro : PySem.W.nsIn K mainGlobals "_law_road_of" = some (some (.ref fro)))
    (lro : K.lookup fro = some ⟨ocro, odro, .func (PySem.W.fnOf "_law_road_of" "_law_road_of" (defArgs sRoadOf) (defBody sRoadOf) (defScope sRoadOf) .none kVro dcro pmro anro (.ref ccro) ctro), slro⟩)
    (cro : PySem.W.codeIn K (.ref ccro) "_law_road_of" = true)
    (kro : PySem.W.keepIn K (.ref fro) = true)
    (hro : PySem.W.codeHdIn K ccro Pro = true)
    (nro : K.lookup Pro = none)
    (ala : PySem.W.nsIn K mainGlobals "law" = some (some (.ref fla)))
    (lla : K.lookup fla = some ⟨ocla, odla, .func (PySem.W.fnOf "law" "law" (defArgs sLaw) (defBody sLaw) (defScope sLaw) .none kVla dcla pmla anla (.ref ccla) ctla), slla⟩)
    (cla : PySem.W.codeIn K (.ref ccla) "law" = true)
    (kla : PySem.W.keepIn K (.ref fla) = true)
    (hla : PySem.W.codeHdIn K ccla Pla = true)
    (nla : K.lookup Pla = none)
    (aRi : PySem.W.findIn K (.ref CR) "__init__" = some (some (.ref fRi)))
    (iRi : PySem.W.isFn K (.ref fRi) = true)
    (lRi : K.lookup fRi = some ⟨ocRi, odRi, .func (PySem.W.fnOf "__init__" "Road.__init__" (defArgs sRInit) (defBody sRInit) (defScope sRInit) .none kVRi dcRi pmRi anRi cdRi ctRi), slRi⟩)
    (cRi : PySem.W.codeIn K cdRi "Road.__init__" = true)
    (kRi : PySem.W.keepIn K (.ref fRi) = true)
    (aRa : PySem.W.findIn K (.ref CR) "__add__" = some (some (.ref fRa)))
    (iRa : PySem.W.isFn K (.ref fRa) = true)
    (lRa : K.lookup fRa = some ⟨ocRa, odRa, .func (PySem.W.fnOf "__add__" "Road.__add__" (defArgs sRAdd) (defBody sRAdd) (defScope sRAdd) .none kVRa dcRa pmRa anRa cdRa ctRa), slRa⟩)
    (cRa : PySem.W.codeIn K cdRa "Road.__add__" = true)
    (kRa : PySem.W.keepIn K (.ref fRa) = true)
    (aRl : PySem.W.findIn K (.ref CR) "__len__" = some (some (.ref fRl)))
    (iRl : PySem.W.isFn K (.ref fRl) = true)
    (lRl : K.lookup fRl = some ⟨ocRl, odRl, .func (PySem.W.fnOf "__len__" "Road.__len__" (defArgs sRLen) (defBody sRLen) (defScope sRLen) .none kVRl dcRl pmRl anRl cdRl ctRl), slRl⟩)
    (cRl : PySem.W.codeIn K cdRl "Road.__len__" = true)
    (kRl : PySem.W.keepIn K (.ref fRl) = true)
    (aRe : PySem.W.findIn K (.ref CR) "__eq__" = some (some (.ref fRe)))
    (iRe : PySem.W.isFn K (.ref fRe) = true)
    (lRe : K.lookup fRe = some ⟨ocRe, odRe, .func (PySem.W.fnOf "__eq__" "Road.__eq__" (defArgs sREq) (defBody sREq) (defScope sREq) .none kVRe dcRe pmRe anRe cdRe ctRe), slRe⟩)
    (cRe : PySem.W.codeIn K cdRe "Road.__eq__" = true)
    (kRe : PySem.W.keepIn K (.ref fRe) = true)
    (aRg : PySem.W.findIn K (.ref CR) "__getitem__" = some (some (.ref fRg)))
    (iRg : PySem.W.isFn K (.ref fRg) = true)
    (lRg : K.lookup fRg = some ⟨ocRg, odRg, .func (PySem.W.fnOf "__getitem__" "Road.__getitem__" (defArgs sRGet) (defBody sRGet) (defScope sRGet) .none kVRg dcRg pmRg anRg cdRg ctRg), slRg⟩)
    (cRg : PySem.W.codeIn K cdRg "Road.__getitem__" = true)
    (kRg : PySem.W.keepIn K (.ref fRg) = true)
    (aRh : PySem.W.findIn K (.ref CR) "__contains__" = some (some (.ref fRh)))
    (iRh : PySem.W.isFn K (.ref fRh) = true)
    (lRh : K.lookup fRh = some ⟨ocRh, odRh, .func (PySem.W.fnOf "__contains__" "Road.__contains__" (defArgs sRHas) (defBody sRHas) (defScope sRHas) .none kVRh dcRh pmRh anRh cdRh ctRh), slRh⟩)
    (cRh : PySem.W.codeIn K cdRh "Road.__contains__" = true)
    (kRh : PySem.W.keepIn K (.ref fRh) = true)
    (aRm : PySem.W.findIn K (.ref CR) "__mul__" = some (some (.ref fRm)))
    (iRm : PySem.W.isFn K (.ref fRm) = true)
    (lRm : K.lookup fRm = some ⟨ocRm, odRm, .func (PySem.W.fnOf "__mul__" "Road.__mul__" (defArgs sRMul) (defBody sRMul) (defScope sRMul) .none kVRm dcRm pmRm anRm cdRm ctRm), slRm⟩)
    (cRm : PySem.W.codeIn K cdRm "Road.__mul__" = true)
    (kRm : PySem.W.keepIn K (.ref fRm) = true)
    (aRw : PySem.W.findIn K (.ref CR) "widened" = some (some (.ref fRw)))
    (iRw : PySem.W.isFn K (.ref fRw) = true)
    (lRw : K.lookup fRw = some ⟨ocRw, odRw, .func (PySem.W.fnOf "widened" "Road.widened" (defArgs sRWidened) (defBody sRWidened) (defScope sRWidened) .none kVRw dcRw pmRw anRw cdRw ctRw), slRw⟩)
    (cRw : PySem.W.codeIn K cdRw "Road.widened" = true)
    (kRw : PySem.W.keepIn K (.ref fRw) = true)
    (aRo : PySem.W.findCls K (.ref CR) mc "of_units" = some (.get (.builtin "classmethod.__get__") (.ref pO) .none (.ref CR)))
    (rRo : PySem.W.recIn K pO "classmethod" = some (.ref fRo :: rO))
    (lRo : K.lookup fRo = some ⟨ocRo, odRo, .func (PySem.W.fnOf "of_units" "Road.of_units" (defArgs sROfUnits) (defBody sROfUnits) (defScope sROfUnits) .none kVRo dcRo pmRo anRo cdRo ctRo), slRo⟩)
    (cRo : PySem.W.codeIn K cdRo "Road.of_units" = true)
    (kRo : PySem.W.keepIn K (.ref fRo) = true)
    (fRo' : PySem.W.fnIn K fRo = true)
    (cr1 : PySem.W.readsIn K CR mc = true)
    (cr2 : PySem.W.specialIn K (.ref CR) "__getattribute__" = some (some (.builtin "type.__getattribute__")))
    (aRs : PySem.W.findIn K (.ref CR) "sections" = some (some (.ref pRs)))
    (gRs : PySem.W.specialIn K (.ref pRs) "__get__" = some (some (.builtin "property.__get__")))
    (tRs : PySem.W.takesIn K (.ref pRs) = some true)
    (rRs : PySem.W.recIn K pRs "property" = some (.ref fRs :: rRsL))
    (lRs : K.lookup fRs = some ⟨ocRs, odRs, .func (PySem.W.fnOf "sections" "Road.sections" (defArgs sRSections) (defBody sRSections) (defScope sRSections) .none kVRs dcRs pmRs anRs cdRs ctRs), slRs⟩)
    (cRs : PySem.W.codeIn K cdRs "Road.sections" = true)
    (kRs : PySem.W.keepIn K (.ref fRs) = true)
    (aRu : PySem.W.findIn K (.ref CR) "units" = some (some (.ref pRu)))
    (gRu : PySem.W.specialIn K (.ref pRu) "__get__" = some (some (.builtin "property.__get__")))
    (tRu : PySem.W.takesIn K (.ref pRu) = some true)
    (rRu : PySem.W.recIn K pRu "property" = some (.ref fRu :: rRuL))
    (lRu : K.lookup fRu = some ⟨ocRu, odRu, .func (PySem.W.fnOf "units" "Road.units" (defArgs sRUnits) (defBody sRUnits) (defScope sRUnits) .none kVRu dcRu pmRu anRu cdRu ctRu), slRu⟩)
    (cRu : PySem.W.codeIn K cdRu "Road.units" = true)
    (kRu : PySem.W.keepIn K (.ref fRu) = true)
    (jRg : PySem.W.fnIn K fRg = true)
    (pgR : PySem.W.plainGet K CR Str.empty = true)
    (hdR : PySem.W.hasDictIn K CR = true)
    (poR : PySem.W.plainOver K CR = true)
    (saR : PySem.W.findIn K (.ref CR) "__setattr__" = some (some (.builtin "object.__setattr__")))
    (mkR : PySem.W.makesIn K CR = true)
    (kcR : PySem.W.keepIn K (.ref CR) = true)
    (nR_sections : PySem.W.findIn K (.ref CR) "_sections" = some none)
    (nR_units : PySem.W.findIn K (.ref CR) "_units" = some none)
    (z_isinstance : PySem.W.nsIn K mainGlobals "isinstance" = some none)
    (z_int : PySem.W.nsIn K mainGlobals "int" = some none)
    (z_bool : PySem.W.nsIn K mainGlobals "bool" = some none)
    (z_str : PySem.W.nsIn K mainGlobals "str" = some none)
    (z_tuple : PySem.W.nsIn K mainGlobals "tuple" = some none)
    (z_len : PySem.W.nsIn K mainGlobals "len" = some none)
    (z_all : PySem.W.nsIn K mainGlobals "all" = some none)
    (z_enumerate : PySem.W.nsIn K mainGlobals "enumerate" = some none)
    (z_sorted : PySem.W.nsIn K mainGlobals "sorted" = some none)
    (z_list : PySem.W.nsIn K mainGlobals "list" = some none)
    (z_range : PySem.W.nsIn K mainGlobals "range" = some none)
    (z_sum : PySem.W.nsIn K mainGlobals "sum" = some none)
    (z_min : PySem.W.nsIn K mainGlobals "min" = some none)
    (z_ValueError : PySem.W.nsIn K mainGlobals "ValueError" = some none)
    (v0 : PySem.W.nsIn K mainGlobals "MOST_SECTIONS" = some (some (.int 12 t0)))
    (v1 : PySem.W.nsIn K mainGlobals "LONGEST_SECTION" = some (some (.int 99 t1)))
    (v2 : PySem.W.nsIn K mainGlobals "MOST_TIMES" = some (some (.int 12 t2)))
    (aL : PySem.W.nsIn K mainGlobals "LETTERS" = some (some (.ref lp)))
    (aK : PySem.W.nsIn K mainGlobals "KINDS" = some (some (.ref kp)))
    (dlN : KDct K w lp "narrow" (.str "n"))
    (dlW : KDct K w lp "wide" (.str "w"))
    (dkN : KDct K w kp "n" (.str "narrow"))
    (dkW : KDct K w kp "w" (.str "wide"))
    (kM : (kp == sysModules) = false)
    (eE : PySem.W.nsIn K mainGlobals "RoadError" = some (some (.ref CE)))
    (e0 : PySem.W.nsIn K mainGlobals "InvalidRoad" = some (some (.ref CI)))
    (e1 : PySem.W.nsIn K mainGlobals "InvalidCars" = some (some (.ref c1)))
    (e2 : PySem.W.nsIn K mainGlobals "UnknownSection" = some (some (.ref CS)))
    (e3 : PySem.W.nsIn K mainGlobals "UnknownCar" = some (some (.ref c3)))
    (e4 : PySem.W.nsIn K mainGlobals "InvalidNumber" = some (some (.ref CN)))
    (dEs : PySem.W.subIn K (.ref CE) (.type "BaseException") = some true)
    (dEh : PySem.W.hasDictIn K CE = true)
    (dEt : PySem.W.typeIn K (.ref CE) = some (.type "type"))
    (d0c : PySem.W.isClsIn K CI = true)
    (d0t : PySem.W.typeIn K (.ref CI) = some (.type "type"))
    (d1c : PySem.W.isClsIn K c1 = true)
    (d1t : PySem.W.typeIn K (.ref c1) = some (.type "type"))
    (d2c : PySem.W.isClsIn K CS = true)
    (d2t : PySem.W.typeIn K (.ref CS) = some (.type "type"))
    (d3c : PySem.W.isClsIn K c3 = true)
    (d3t : PySem.W.typeIn K (.ref c3) = some (.type "type"))
    (d4c : PySem.W.isClsIn K CN = true)
    (d4t : PySem.W.typeIn K (.ref CN) = some (.type "type"))
    (r0cl : PySem.W.isClsIn K CI = true)
    (r0ga : PySem.W.findIn K (.ref CI) "__getattribute__" = some (some (.builtin "BaseException.__getattribute__")))
    (r0gg : PySem.W.findIn K (.ref CI) "__getattr__" = some none)
    (r0sb : PySem.W.subIn K (.ref CI) (.type "BaseException") = some true)
    (r0hd : PySem.W.hasDictIn K CI = true)
    (r0ct : PySem.W.findIn K (.ref CI) "__class__" = some (some (.builtin "object.__class__")))
    (r0mr : PySem.W.mroIn K CI (.type "object") = some true)
    (r0ix : PySem.W.findIn K (.ref CI) "index" = some none)
    (r0nm : PySem.W.findIn K (.ref CI) "name" = some none)
    (r0xe : PySem.W.subIn K (.ref CI) (.ref CE) = some true)
    (r0kv : PySem.W.subIn K (.ref CI) (.type "ValueError") = some true)
    (r0k0 : PySem.W.subIn K (.ref CI) (.ref CI) = some true)
    (r0k1 : PySem.W.subIn K (.ref CI) (.ref c1) = some false)
    (r0k2 : PySem.W.subIn K (.ref CI) (.ref CS) = some false)
    (r0k3 : PySem.W.subIn K (.ref CI) (.ref c3) = some false)
    (r0k4 : PySem.W.subIn K (.ref CI) (.ref CN) = some false)
    (r2cl : PySem.W.isClsIn K CS = true)
    (r2ga : PySem.W.findIn K (.ref CS) "__getattribute__" = some (some (.builtin "BaseException.__getattribute__")))
    (r2gg : PySem.W.findIn K (.ref CS) "__getattr__" = some none)
    (r2sb : PySem.W.subIn K (.ref CS) (.type "BaseException") = some true)
    (r2hd : PySem.W.hasDictIn K CS = true)
    (r2ct : PySem.W.findIn K (.ref CS) "__class__" = some (some (.builtin "object.__class__")))
    (r2mr : PySem.W.mroIn K CS (.type "object") = some true)
    (r2ix : PySem.W.findIn K (.ref CS) "index" = some none)
    (r2nm : PySem.W.findIn K (.ref CS) "name" = some none)
    (r2xe : PySem.W.subIn K (.ref CS) (.ref CE) = some true)
    (r2kv : PySem.W.subIn K (.ref CS) (.type "ValueError") = some true)
    (r2k0 : PySem.W.subIn K (.ref CS) (.ref CI) = some false)
    (r2k1 : PySem.W.subIn K (.ref CS) (.ref c1) = some false)
    (r2k2 : PySem.W.subIn K (.ref CS) (.ref CS) = some true)
    (r2k3 : PySem.W.subIn K (.ref CS) (.ref c3) = some false)
    (r2k4 : PySem.W.subIn K (.ref CS) (.ref CN) = some false)
    (r4cl : PySem.W.isClsIn K CN = true)
    (r4ga : PySem.W.findIn K (.ref CN) "__getattribute__" = some (some (.builtin "BaseException.__getattribute__")))
    (r4gg : PySem.W.findIn K (.ref CN) "__getattr__" = some none)
    (r4sb : PySem.W.subIn K (.ref CN) (.type "BaseException") = some true)
    (r4hd : PySem.W.hasDictIn K CN = true)
    (r4ct : PySem.W.findIn K (.ref CN) "__class__" = some (some (.builtin "object.__class__")))
    (r4mr : PySem.W.mroIn K CN (.type "object") = some true)
    (r4ix : PySem.W.findIn K (.ref CN) "index" = some none)
    (r4nm : PySem.W.findIn K (.ref CN) "name" = some none)
    (r4xe : PySem.W.subIn K (.ref CN) (.ref CE) = some true)
    (r4kv : PySem.W.subIn K (.ref CN) (.type "ValueError") = some true)
    (r4k0 : PySem.W.subIn K (.ref CN) (.ref CI) = some false)
    (r4k1 : PySem.W.subIn K (.ref CN) (.ref c1) = some false)
    (r4k2 : PySem.W.subIn K (.ref CN) (.ref CS) = some false)
    (r4k3 : PySem.W.subIn K (.ref CN) (.ref c3) = some false)
    (r4k4 : PySem.W.subIn K (.ref CN) (.ref CN) = some true)
    (xS : K.lookup CS = some (PySem.excClassObj nmS qS CS NS bsS [.ref CE, .type "ValueError", .type "Exception", .type "BaseException", .type "object"] true snS subS abS colS ddS u0 u1 u2 u3 u5 "ValueError.__new__"))
    (saS : PySem.W.findIn K (.ref CS) "__setattr__" = some (some (.builtin "object.__setattr__")))
    (kS : PySem.W.keepIn K (.ref CS) = true)
    (aSi : PySem.W.findIn K (.ref CS) "__init__" = some (some (.ref fSi)))
    (tSi : PySem.W.typeIn K (.ref fSi) = some (.type "function"))
    (lSi : K.lookup fSi = some ⟨ocSi, odSi, .func (PySem.W.fnOf "__init__" "UnknownSection.__init__" (defArgs sUnknownSectionInit) (defBody sUnknownSectionInit) (defScope sUnknownSectionInit) .none kVSi dcSi pmSi anSi cdSi ctSi), slSi⟩)
    (cSi : PySem.W.codeIn K cdSi "UnknownSection.__init__" = true)
    (kSi : PySem.W.keepIn K (.ref fSi) = true)
    (xI : K.lookup CI = some (PySem.excClassObj nmI qI CI NI bsI [.ref CE, .type "ValueError", .type "Exception", .type "BaseException", .type "object"] true snI subI abI colI ddI o0 o1 o2 o3 o5 "ValueError.__new__"))
    (saI : PySem.W.findIn K (.ref CI) "__setattr__" = some (some (.builtin "object.__setattr__")))
    (kI : PySem.W.keepIn K (.ref CI) = true)
    (aIi : PySem.W.findIn K (.ref CI) "__init__" = some (some (.ref fIi)))
    (tIi : PySem.W.typeIn K (.ref fIi) = some (.type "function"))
    (lIi : K.lookup fIi = some ⟨ocIi, odIi, .func (PySem.W.fnOf "__init__" "InvalidRoad.__init__" (defArgs sInvalidRoadInit) (defBody sInvalidRoadInit) (defScope sInvalidRoadInit) .none kVIi dcIi pmIi anIi cdIi ctIi), slIi⟩)
    (cIi : PySem.W.codeIn K cdIi "InvalidRoad.__init__" = true)
    (kIi : PySem.W.keepIn K (.ref fIi) = true)
    (qI1 : PySem.W.findIn K (.type "int") (PySem.dunder (Operator.info .Mult).2) = some foI)
    (qI2 : PySem.W.findIn K (.type "int") (dunderR (Operator.info .Mult).2) = some roI)
    (qI3 : PySem.W.subIn K (.type "int") (.ref CR) = some false)
    (qN1 : PySem.W.findIn K (.type "NoneType") (PySem.dunder (Operator.info .Mult).2) = some foN)
    (qN2 : PySem.W.findIn K (.type "NoneType") (dunderR (Operator.info .Mult).2) = some roN)
    (qN3 : PySem.W.subIn K (.type "NoneType") (.ref CR) = some false)
    (qB1 : PySem.W.findIn K (.type "bool") (PySem.dunder (Operator.info .Mult).2) = some foB)
    (qB2 : PySem.W.findIn K (.type "bool") (dunderR (Operator.info .Mult).2) = some roB)
    (qB3 : PySem.W.subIn K (.type "bool") (.ref CR) = some false)
    (qhn : PySem.W.specialIn K (.builtin "object.__class__") "__get__" = some (some (.builtin "getset_descriptor.__get__")))
    (qht : PySem.W.takesIn K (.builtin "object.__class__") = some true)
    (n4q : PySem.W.excIn K CN [.type "ValueError", .type "Exception", .type "BaseException", .type "object"] "ValueError.__new__" = true)
    (n4k : PySem.W.keepIn K (.ref CN) = true)
    (n4t : PySem.W.typeIn K (.ref CN) = some (.type "type"))
    (qha : PySem.W.findIn K (.ref CR) "__class__" = some (some (.builtin "object.__class__")))
    (qhm : PySem.W.mroIn K CR (.type "object") = some true)
    (qsf : PySem.W.selfFirst K CR = true)
    (qnf : PySem.W.notFirst K CR (.ref CR) = true)
    (qns : PySem.W.notFirst K CR (.type "str") = true)
    (qkc : PySem.W.isClsIn K CR = true)
    (qkt : PySem.W.typeIn K (.ref CR) = some (.type "type"))
    (qks : PySem.W.subIn K (.type "str") (.ref CR) = some false)
    (qrm : PySem.W.findIn K (.ref CR) (dunderR (Operator.info .Mult).2) = some none)
    (neP01 : Pro ≠ Pla)
    (hT : ∀ P ∈ [Pro, Pla], h.get? P = some { cls := .none, data := .fields #[] }) : LamX.LawAtS l w K CX0 11 63 "_law_script" mg fa h := by
  have e := hfa.symm.trans (PySem.W.mg_of X G ala)
  cases e
  have M : Mg mg := ⟨PySem.W.mg_none_of X G z_isinstance, PySem.W.mg_none_of X G z_int, PySem.W.mg_none_of X G z_bool, PySem.W.mg_none_of X G z_str, PySem.W.mg_none_of X G z_tuple, PySem.W.mg_none_of X G z_len, PySem.W.mg_none_of X G z_all, PySem.W.mg_none_of X G z_enumerate, PySem.W.mg_none_of X G z_sorted, PySem.W.mg_none_of X G z_list, PySem.W.mg_none_of X G z_range, PySem.W.mg_none_of X G z_sum, ⟨_, PySem.W.mg_of X G v0⟩, ⟨_, PySem.W.mg_of X G v1⟩⟩
  have RR : RoadT K w mg CR lp kp := ⟨⟨pgR, hdR, poR, saR⟩, nR_sections, nR_units, PySem.W.mg_of X G aR, PySem.W.mg_of X G aL, PySem.W.mg_of X G aK, dlN, dlW, dkN, dkW, kM⟩
  have Fin := fun_mk (st := sIsNumber) lin cin kin
  have Bin : Fb K mg "is_number" sIsNumber ["value", "least", "most"] fin _ := ⟨Fin, PySem.W.mg_of X G ain, Fin.binds (ps := ["value", "least", "most"]) fun _ _ _ _ _ _ us hl => match us, hl with | [_, _, _], _ => rfl⟩
  have Fis := fun_mk (st := sIsSection) lis cis kis
  have Bis : Fb K mg "_is_section" sIsSection ["value"] fis _ := ⟨Fis, PySem.W.mg_of X G ais, Fis.binds (ps := ["value"]) fun _ _ _ _ _ _ us hl => match us, hl with | [_], _ => rfl⟩
  have Fuo := fun_mk (st := sUnitsOf) luo cuo kuo
  have Buo : Fb K mg "_units_of" sUnitsOf ["sections"] fuo _ := ⟨Fuo, PySem.W.mg_of X G auo, Fuo.binds (ps := ["sections"]) fun _ _ _ _ _ _ us hl => match us, hl with | [_], _ => rfl⟩
  have Fru := fun_mk (st := sRuns) lru cru kru
  have Bru : Fb K mg "_runs" sRuns ["units"] fru _ := ⟨Fru, PySem.W.mg_of X G aru, Fru.binds (ps := ["units"]) fun _ _ _ _ _ _ us hl => match us, hl with | [_], _ => rfl⟩
  have Fdi := fun_mk (st := sDice) ldi cdi kdi
  have Bdi : Fb K mg "_law_dice" sDice ["_law_script"] fdi _ := ⟨Fdi, PySem.W.mg_of X G adi, Fdi.binds (ps := ["_law_script"]) fun _ _ _ _ _ _ us hl => match us, hl with | [_], _ => rfl⟩
  have Fne := fun_mk (st := sNext) lne cne kne
  have Bne : Fb K mg "_law_next" sNext ["_law_dice_here", "_law_many"] fne _ := ⟨Fne, PySem.W.mg_of X G ane, Fne.binds (ps := ["_law_dice_here", "_law_many"]) fun _ _ _ _ _ _ us hl => match us, hl with | [_, _], _ => rfl⟩
  have Fpi := fun_mk (st := sPick) lpi cpi kpi
  have Bpi : Fb K mg "_law_pick" sPick ["_law_d", "_law_some"] fpi _ := ⟨Fpi, PySem.W.mg_of X G api, Fpi.binds (ps := ["_law_d", "_law_some"]) fun _ _ _ _ _ _ us hl => match us, hl with | [_, _], _ => rfl⟩
  have Fto := fun_mk (st := sTold) lto cto kto
  have Bto : Fb K mg "_law_told" sTold ["_law_work"] fto _ := ⟨Fto, PySem.W.mg_of X G ato, Fto.binds (ps := ["_law_work"]) fun _ _ _ _ _ _ us hl => match us, hl with | [_], _ => rfl⟩
  have Fpa := fun_mk (st := sParts) lpa cpa kpa
  have Bpa : Fb K mg "_law_parts" sParts ["_law_d", "_law_most", "_law_long"] fpa _ := ⟨Fpa, PySem.W.mg_of X G apa, Fpa.binds (ps := ["_law_d", "_law_most", "_law_long"]) fun _ _ _ _ _ _ us hl => match us, hl with | [_, _, _], _ => rfl⟩
  have Fma := fun_mk (st := sMade) lma cma kma
  have Bma : Fb K mg "_law_made" sMade ["_law_parts_here"] fma _ := ⟨Fma, PySem.W.mg_of X G ama, Fma.binds (ps := ["_law_parts_here"]) fun _ _ _ _ _ _ us hl => match us, hl with | [_], _ => rfl⟩
  have Fle := fun_mk (st := sLetters) lle cle kle
  have Ble : Fb K mg "_law_letters" sLetters ["_law_parts_here"] fle _ := ⟨Fle, PySem.W.mg_of X G ale, Fle.binds (ps := ["_law_parts_here"]) fun _ _ _ _ _ _ us hl => match us, hl with | [_], _ => rfl⟩
  have Bro : FbC K mg "_law_road_of" sRoadOf ["_law_d", "_law_parts_here"] fro _ ccro := ⟨⟨⟨_, _, _, _, _, _, _, _, rfl, lro, cro⟩, kro⟩, PySem.W.mg_of X G aro, .all fun us hl => match us, hl with | [_, _], _ => rfl⟩
  have Fla : FunC K "law" "law" sLaw _ _ ccla := ⟨⟨_, _, _, _, _, _, _, _, rfl, lla, cla⟩, kla⟩
  have FRi := fun_mk (st := sRInit) lRi cRi kRi
  have FRa := fun_mk (st := sRAdd) lRa cRa kRa
  have bRa := FRa.binds (ps := ["self", "other"]) fun _ _ _ _ _ _ us hl => match us, hl with | [_, _], _ => rfl
  have FRl := fun_mk (st := sRLen) lRl cRl kRl
  have bRl := FRl.binds (ps := ["self"]) fun _ _ _ _ _ _ us hl => match us, hl with | [_], _ => rfl
  have FRe := fun_mk (st := sREq) lRe cRe kRe
  have bRe := FRe.binds (ps := ["self", "other"]) fun _ _ _ _ _ _ us hl => match us, hl with | [_, _], _ => rfl
  have FRg := fun_mk (st := sRGet) lRg cRg kRg
  have bRg := FRg.binds (ps := ["self", "at"]) fun _ _ _ _ _ _ us hl => match us, hl with | [_, _], _ => rfl
  have FRh := fun_mk (st := sRHas) lRh cRh kRh
  have bRh := FRh.binds (ps := ["self", "x"]) fun _ _ _ _ _ _ us hl => match us, hl with | [_, _], _ => rfl
  have FRm := fun_mk (st := sRMul) lRm cRm kRm
  have bRm := FRm.binds (ps := ["self", "other"]) fun _ _ _ _ _ _ us hl => match us, hl with | [_, _], _ => rfl
  have FRw := fun_mk (st := sRWidened) lRw cRw kRw
  have FRo := fun_mk (st := sROfUnits) lRo cRo kRo
  have bRo := FRo.binds (ps := ["cls", "units"]) fun _ _ _ _ _ _ us hl => match us, hl with | [_, _], _ => rfl
  have FRs := fun_mk (st := sRSections) lRs cRs kRs
  have bRs := FRs.binds (ps := ["self"]) fun _ _ _ _ _ _ us hl => match us, hl with | [_], _ => rfl
  have FRu := fun_mk (st := sRUnits) lRu cRu kRu
  have bRu := FRu.binds (ps := ["self"]) fun _ _ _ _ _ _ us hl => match us, hl with | [_], _ => rfl
  let T : List (Addr × Str) := [(Pro, qRoadOf), (Pla, qLaw)]
  have mro : (Pro, qRoadOf) ∈ T := by simp [T]
  have mla : (Pla, qLaw) ∈ T := by simp [T]
  have uro : ∀ p ∈ T, p.1 = Pro → p.2 = qRoadOf := fun p hp e => by
    rcases List.mem_cons.mp hp with z | hp
    · rw [z]
    · skip
      rw [(List.mem_singleton.mp hp)] at e
      exact absurd e.symm neP01
  have ula : ∀ p ∈ T, p.1 = Pla → p.2 = qLaw := fun p hp e => by
    rcases List.mem_cons.mp hp with z | hp
    · rw [z] at e
      exact absurd e neP01
    · skip
      rw [(List.mem_singleton.mp hp)]
  have PORs : PropOf K CR "sections" pRs fRs := ⟨aRs, gRs, tRs, _, rRs⟩
  have PORu : PropOf K CR "units" pRu fRu := ⟨aRu, gRu, tRu, _, rRu⟩
  have MR : Mk K CR fRi := ⟨mkR, aRi, iRi, kcR⟩
  have Cro : PySem.W.CodeHd h ccro Pro := PySem.W.codeHd_of_K X hro
  have Cla : PySem.W.CodeHd h ccla Pla := PySem.W.codeHd_of_K X hla
  refine ⟨PySem.W.fnOf "law" "law" (defArgs sLaw) (defBody sLaw) (defScope sLaw) .none kVla dcla pmla anla (.ref ccla) ctla, [(ccro, Pro), (ccla, Pla)], spLaw K T, fun p hp => hT p.2 ?_, fun p hp => ?_, fun p hp => ?_, fun s v => .of_eq rfl, fun H a ns _ _ hH hS => ⟨a, ns, rfl, hS, fun p hp => ?_, fun _ => rfl⟩, fun base hK hNs hTB => ?_⟩
  · skip
    rcases List.mem_cons.mp hp with z | hp
    · rw [z]; simp
    · skip
      rw [(List.mem_singleton.mp hp)]; simp
  · skip
    rcases List.mem_cons.mp hp with z | hp
    · rw [z]; exact nro
    · skip
      rw [(List.mem_singleton.mp hp)]; exact nla
  · skip
    rcases List.mem_cons.mp hp with z | hp
    · rw [z]; exact Cro
    · skip
      rw [(List.mem_singleton.mp hp)]; exact Cla
  · skip
    rcases List.mem_cons.mp hp with z | hp
    · rw [z]; exact tabS0 (hH (ccro, Pro) (by simp))
    · skip
      rw [(List.mem_singleton.mp hp)]; exact tabS0 (hH (ccla, Pla) (by simp))
  have TBro : TabB base mg ccro Pro := hTB (ccro, Pro) (by simp)
  have TBla : TabB base mg ccla Pla := hTB (ccla, Pla) (by simp)
  have ET : ErrTab mg CE CI c1 CS c3 CN := ⟨PySem.W.mg_of X G eE, PySem.W.mg_of X G e0, PySem.W.mg_of X G e1, PySem.W.mg_of X G e2, PySem.W.mg_of X G e3, PySem.W.mg_of X G e4, PySem.W.mg_none_of X G z_ValueError⟩
  have J0 : ErrJ K CE CI c1 CS c3 CN CI 0 := ⟨⟨r0cl, r0ga, r0gg, r0sb, r0hd, r0ct, qhn, qht, r0mr, r0ix, r0nm⟩, PySem.W.exm_ref dEs dEh dEt r0xe, kit_refE r0k0 d0c d0t r0k0, kit_refE r0k0 d1c d1t r0k1, kit_refE r0k0 d2c d2t r0k2, kit_refE r0k0 d3c d3t r0k3, kit_refE r0k0 d4c d4t r0k4, kit_tyE (by decide +kernel) r0kv⟩
  have Gin := ok_isNumber (P := l.prog) (w := w) (base := base) Fin M
  have GinV := ok_isNumV (P := l.prog) (w := w) (base := base) Fin M
  have Gis := ok_isSection (P := l.prog) (w := w) (base := base) Bis M Bin Gin
  have GisB := ok_isSecB (P := l.prog) (w := w) (base := base) Bis M Bin GinV
  have Gru := ok_runs (P := l.prog) (w := w) (base := base) Bru RR
  have Guo := ok_unitsOf (P := l.prog) (w := w) (base := base) Buo RR
  have GRi := ok_rInit (P := l.prog) (w := w) (base := base) FRi M RR Bis Gis Buo Guo
  have GRs := ok_rSections (P := l.prog) (w := w) (base := base) FRs RR
  have GRu := ok_rUnits (P := l.prog) (w := w) (base := base) FRu RR
  have qkit : PySem.W.kitOne K (.ref CR) (.ref CR) = some true := if_pos (by first | exact BEq.rfl | simp | rfl)
  have GRa := ok_rAdd (P := l.prog) (w := w) (base := base) FRa M RR ⟨qha, qhn, qht, qhm, qkit⟩ MR GRi
  have ea : (fun vs H Q E => spRAdd CR (vs ++ []) H Q E) = spRAdd CR := by funext vs H Q E; rw [List.append_nil]
  have GRa2 : FnR l.prog w K mg base CX0 5 fRa (spRAdd CR) := ea ▸ GRa.raw bRa .nil
  have GRo := ok_ofUnits (P := l.prog) (w := w) (base := base) FRo M RR MR Bru Gru GRi
  have GRl := ok_rLen (P := l.prog) (w := w) (base := base) FRl M RR
  have GRe := ok_rEq (P := l.prog) (w := w) (base := base) FRe M RR ⟨qha, qhn, qht, qhm, qkit⟩
  have GReS := ok_rEqS (P := l.prog) (w := w) (base := base) FRe M RR (kit_tyR qkc qkt qks)
  have GRg := ok_rGet (P := l.prog) (w := w) (base := base) FRg M RR Bin Gin
  have GRh := ok_rHas (P := l.prog) (w := w) (base := base) FRh RR
  have GRw := ok_widened (P := l.prog) (w := w) (base := base) FRw M RR MR GRi Bin Gin
  have OCS : OexC K CS := ⟨⟨_, _, _, _, _, _, _, _, _, _, _, _, _, _, _, xS, rfl⟩, saS, r2sb, d2t, kS⟩
  have FIS := fun_mk (st := sUnknownSectionInit) lSi cSi kSi
  have bIS := FIS.binds (ps := ["self", "index"]) fun _ _ _ _ _ _ us hl => match us, hl with | [_, _], _ => rfl
  have GIS := ok_sInit (P := l.prog) (w := w) (base := base) (mg := mg) FIS OCS r2ix
  have EUS : ErrF l.prog w K mg base "UnknownSection" "index" CS := ⟨OCS, PySem.W.mg_of X G e2, ⟨_, _, _, aSi, tSi, bIS, GIS⟩⟩
  have OCI : OexC K CI := ⟨⟨_, _, _, _, _, _, _, _, _, _, _, _, _, _, _, xI, rfl⟩, saI, r0sb, d0t, kI⟩
  have FII := fun_mk (st := sInvalidRoadInit) lIi cIi kIi
  have bII := FII.binds (ps := ["self", "index"]) fun _ _ _ _ _ _ us hl => match us, hl with | [_, _], _ => rfl
  have GII := ok_iInit (P := l.prog) (w := w) (base := base) (mg := mg) FII OCI r0ix
  have EUI : ErrF l.prog w K mg base "InvalidRoad" "index" CI := ⟨OCI, PySem.W.mg_of X G e0, ⟨_, _, _, aIi, tIi, bII, GII⟩⟩
  have EN : ErrT K mg "InvalidNumber" CN := ⟨n4q, PySem.W.mg_of X G e4, n4k, r4sb, n4t⟩
  have GisX : FnOk l.prog w K mg base CX0 2 fis _ ["value"] spIsSec := L2.FnOk.orX Gis GisB
  have GRiU := ok_rInitU (P := l.prog) (w := w) (base := base) (C:=CR) (lp:=lp) (kp:=kp) FRi M EUI Bis GisX
  have GRiX : FnR l.prog w K mg base (L2.CX l.prog w) 4 fRi (spRInitX CR CI) := L2.FnR.orX (GRi.mono (by decide)) GRiU
  have GRgU := ok_rGetU (P := l.prog) (w := w) (base := base) FRg M RR EN Bin GinV
  have GRgX : FnOk l.prog w K mg base (L2.CX l.prog w) 2 fRg _ ["self", "at"] (spRGetX CR CN) := L2.FnOk.orX GRg GRgU
  have GRmX := ok_rMulX (P := l.prog) (w := w) (base := base) FRm M RR MR ⟨_, PySem.W.mg_of X G v2⟩ EN GRiX Bin GinV
  have GRoU := ok_ofUnitsU (P := l.prog) (w := w) (base := base) FRo M RR MR Bru Gru GRiX
  have GRoX : FnOk l.prog w K mg base (L2.CX l.prog w) 6 fRo _ ["cls", "units"] (spOfX CR CI) := L2.FnOk.orX (GRo.mono (by decide)) GRoU
  have GRwU := ok_widenedX (P := l.prog) (w := w) (base := base) FRw M RR EUS Bin GinV
  have GRwX : FnR l.prog w K mg base (L2.CX l.prog w) 5 fRw (spWidJ CR CS) := L2.FnR.orX GRw GRwU
  have Gne := ok_next (P := l.prog) (w := w) (base := base) Fne M
  have Gdi := ok_dice (P := l.prog) (w := w) (base := base) Fdi M
  have Gpi := ok_pick (P := l.prog) (w := w) (base := base) Fpi M Bne Gne
  have Gpa := ok_parts (P := l.prog) (w := w) (base := base) Fpa M Bne Gne Bpi Gpi
  have Gma := ok_made (P := l.prog) (w := w) (base := base) (dA := PySem.W.fnOf "law" "law" (defArgs sLaw) (defBody sLaw) (defScope sLaw) .none kVla dcla pmla anla (.ref ccla) ctla) (ds := []) (dvs := []) Fma M RR MR GRi qsf aRa iRa GRa2
  have Gle := ok_letters (P := l.prog) (w := w) (base := base) (mg := mg) Fle
  have WT : Teller K mg "_law_told" "_law_work" fto nTold (defBody sTold) (defScope sTold) cdto := ⟨PySem.W.mg_of X G ato, kto, ⟨_, _, _, _, _, _, _, _, _, _, lto, Bto.bd⟩, cto, scTold, rfl, .inl rfl⟩
  have Gro := ok_roadOf (P := l.prog) (w := w) (base := base) Bro.fn TBro mro uro M (PySem.W.mg_none_of X G z_min) RR MR GRiX ET J0 ⟨_, _, Bne, Gne⟩ ⟨_, _, Bpi, Gpi⟩ ⟨_, _, WT⟩
  exact ok_law Fla TBla mla ula ⟨M, RR, ET, J0, ⟨⟨r2cl, r2ga, r2gg, r2sb, r2hd, r2ct, qhn, qht, r2mr, r2ix, r2nm⟩, PySem.W.exm_ref dEs dEh dEt r2xe, kit_refE r2k2 d0c d0t r2k0, kit_refE r2k2 d1c d1t r2k1, kit_refE r2k2 d2c d2t r2k2, kit_refE r2k2 d3c d3t r2k3, kit_refE r2k2 d4c d4t r2k4, kit_tyE (by decide +kernel) r2kv⟩, ⟨⟨r4cl, r4ga, r4gg, r4sb, r4hd, r4ct, qhn, qht, r4mr, r4ix, r4nm⟩, PySem.W.exm_ref dEs dEh dEt r4xe, kit_refE r4k4 d0c d0t r4k0, kit_refE r4k4 d1c d1t r4k1, kit_refE r4k4 d2c d2t r4k2, kit_refE r4k4 d3c d3t r4k3, kit_refE r4k4 d4c d4t r4k4, kit_tyE (by decide +kernel) r4kv⟩, ⟨_, _, Bdi, Gdi⟩, ⟨_, _, Bne, Gne⟩, ⟨_, _, Bpi, Gpi⟩, ⟨_, _, Bpa, Gpa⟩, ⟨_, _, Bma, Gma⟩, ⟨_, _, Ble, Gle⟩, ⟨_, _, Bro.fb, Gro⟩, ⟨cr1, cr2⟩, ⟨aRo, ⟨_, rRo⟩, fRo'⟩, ⟨_, bRo, GRo⟩, ⟨_, bRo, GRoX⟩, qnf, qns, ⟨_, _, aRe, iRe, bRe, GRe, GReS⟩, ⟨_, _, aRl, iRl, bRl, GRl⟩, ⟨_, _, aRg, iRg, jRg, bRg, GRgX⟩, ⟨_, _, aRh, iRh, bRh, GRh⟩, ⟨_, _, ⟨qsf, aRm, iRm, qrm, ⟨_, _, qI1, qI2, qI3⟩, ⟨_, _, qN1, qN2, qN3⟩, ⟨_, _, qB1, qB2, qB3⟩⟩, bRm, GRmX⟩, ⟨_, ⟨aRw, iRw, kRw⟩, GRwX⟩, ⟨_, PORu, bRu, GRu⟩, ⟨_, PORs, bRs, GRs⟩, ⟨_, _, WT⟩⟩
end Sl

open PySem PySem.W PyProof.Rows
set_option maxRecDepth 100000 in
set_option maxHeartbeats 0 in
theorem PySem.Challenge.cw_slowleaders_k01_roads_and_their_signs_holds : PySem.Challenge.rw_slowleaders_k01_roads_and_their_signs.Holds := by
  w_on; o_law; k_head; (case hw => w_witness2)
  k_fill
  refine LamX.walk_ofTs (l := PySem.Challenge.rw_slowleaders_k01_roads_and_their_signs) (n := 63) (k := 11) (x := "_law_script") (CX := fun _ => L2.CX0) rfl (by decide) rfl ⟨rfl, by decide, by decide⟩ (fun w h Y => PySem.W.km_in_of Y) ?F (fun _ _ _ _ _ z => z)
  case F =>
    intro w mg fa h Y KX G hmg
    have hT8 := km_tabs_of Y
    refine' Sl.all_mk (Pro := 291) (Pla := 298) (mc := PySem.Value.type "type") KX G hmg ?aR ?ain ?lin ?cin ?kin ?ais ?lis ?cis ?kis ?auo ?luo ?cuo ?kuo ?aru ?lru ?cru ?kru ?adi ?ldi ?cdi ?kdi ?ane ?lne ?cne ?kne ?api ?lpi ?cpi ?kpi ?ato ?lto ?cto ?kto ?apa ?lpa ?cpa ?kpa ?ama ?lma ?cma ?kma ?ale ?lle ?cle ?kle ?aro ?lro ?cro ?kro ?hro ?nro ?ala ?lla ?cla ?kla ?hla ?nla ?aRi ?iRi ?lRi ?cRi ?kRi ?aRa ?iRa ?lRa ?cRa ?kRa ?aRl ?iRl ?lRl ?cRl ?kRl ?aRe ?iRe ?lRe ?cRe ?kRe ?aRg ?iRg ?lRg ?cRg ?kRg ?aRh ?iRh ?lRh ?cRh ?kRh ?aRm ?iRm ?lRm ?cRm ?kRm ?aRw ?iRw ?lRw ?cRw ?kRw ?aRo ?rRo ?lRo ?cRo ?kRo ?fRo' ?cr1 ?cr2 ?aRs ?gRs ?tRs ?rRs ?lRs ?cRs ?kRs ?aRu ?gRu ?tRu ?rRu ?lRu ?cRu ?kRu ?jRg ?pgR ?hdR ?poR ?saR ?mkR ?kcR ?nR_sections ?nR_units ?z_isinstance ?z_int ?z_bool ?z_str ?z_tuple ?z_len ?z_all ?z_enumerate ?z_sorted ?z_list ?z_range ?z_sum ?z_min ?z_ValueError ?v0 ?v1 ?v2 ?aL ?aK ?dlN ?dlW ?dkN ?dkW ?kM ?eE ?e0 ?e1 ?e2 ?e3 ?e4 ?dEs ?dEh ?dEt ?d0c ?d0t ?d1c ?d1t ?d2c ?d2t ?d3c ?d3t ?d4c ?d4t ?r0cl ?r0ga ?r0gg ?r0sb ?r0hd ?r0ct ?r0mr ?r0ix ?r0nm ?r0xe ?r0kv ?r0k0 ?r0k1 ?r0k2 ?r0k3 ?r0k4 ?r2cl ?r2ga ?r2gg ?r2sb ?r2hd ?r2ct ?r2mr ?r2ix ?r2nm ?r2xe ?r2kv ?r2k0 ?r2k1 ?r2k2 ?r2k3 ?r2k4 ?r4cl ?r4ga ?r4gg ?r4sb ?r4hd ?r4ct ?r4mr ?r4ix ?r4nm ?r4xe ?r4kv ?r4k0 ?r4k1 ?r4k2 ?r4k3 ?r4k4 ?xS ?saS ?kS ?aSi ?tSi ?lSi ?cSi ?kSi ?xI ?saI ?kI ?aIi ?tIi ?lIi ?cIi ?kIi ?qI1 ?qI2 ?qI3 ?qN1 ?qN2 ?qN3 ?qB1 ?qB2 ?qB3 ?qhn ?qht ?n4q ?n4k ?n4t ?qha ?qhm ?qsf ?qnf ?qns ?qkc ?qkt ?qks ?qrm ?neP01 ?hT
    (case aR => first | k_is | k_exc | kx_is)
    (case ain => first | k_is | k_exc | kx_is)
    (case lin => first | k_is | k_exc | kx_is)
    (case cin => first | k_is | k_exc | kx_is)
    (case kin => first | k_is | k_exc | kx_is)
    (case ais => first | k_is | k_exc | kx_is)
    (case lis => first | k_is | k_exc | kx_is)
    (case cis => first | k_is | k_exc | kx_is)
    (case kis => first | k_is | k_exc | kx_is)
    (case auo => first | k_is | k_exc | kx_is)
    (case luo => first | k_is | k_exc | kx_is)
    (case cuo => first | k_is | k_exc | kx_is)
    (case kuo => first | k_is | k_exc | kx_is)
    (case aru => first | k_is | k_exc | kx_is)
    (case lru => first | k_is | k_exc | kx_is)
    (case cru => first | k_is | k_exc | kx_is)
    (case kru => first | k_is | k_exc | kx_is)
    (case adi => first | k_is | k_exc | kx_is)
    (case ldi => first | k_is | k_exc | kx_is)
    (case cdi => first | k_is | k_exc | kx_is)
    (case kdi => first | k_is | k_exc | kx_is)
    (case ane => first | k_is | k_exc | kx_is)
    (case lne => first | k_is | k_exc | kx_is)
    (case cne => first | k_is | k_exc | kx_is)
    (case kne => first | k_is | k_exc | kx_is)
    (case api => first | k_is | k_exc | kx_is)
    (case lpi => first | k_is | k_exc | kx_is)
    (case cpi => first | k_is | k_exc | kx_is)
    (case kpi => first | k_is | k_exc | kx_is)
    (case ato => first | k_is | k_exc | kx_is)
    (case lto => first | k_is | k_exc | kx_is)
    (case cto => first | k_is | k_exc | kx_is)
    (case kto => first | k_is | k_exc | kx_is)
    (case apa => first | k_is | k_exc | kx_is)
    (case lpa => first | k_is | k_exc | kx_is)
    (case cpa => first | k_is | k_exc | kx_is)
    (case kpa => first | k_is | k_exc | kx_is)
    (case ama => first | k_is | k_exc | kx_is)
    (case lma => first | k_is | k_exc | kx_is)
    (case cma => first | k_is | k_exc | kx_is)
    (case kma => first | k_is | k_exc | kx_is)
    (case ale => first | k_is | k_exc | kx_is)
    (case lle => first | k_is | k_exc | kx_is)
    (case cle => first | k_is | k_exc | kx_is)
    (case kle => first | k_is | k_exc | kx_is)
    (case aro => first | k_is | k_exc | kx_is)
    (case lro => first | k_is | k_exc | kx_is)
    (case cro => first | k_is | k_exc | kx_is)
    (case kro => first | k_is | k_exc | kx_is)
    (case hro => first | kernel_rfl | k_is)
    (case nro => first | kernel_rfl | k_is)
    (case ala => first | k_is | k_exc | kx_is)
    (case lla => first | k_is | k_exc | kx_is)
    (case cla => first | k_is | k_exc | kx_is)
    (case kla => first | k_is | k_exc | kx_is)
    (case hla => first | kernel_rfl | k_is)
    (case nla => first | kernel_rfl | k_is)
    (case aRi => first | k_is | k_exc | kx_is)
    (case iRi => first | k_is | k_exc | kx_is)
    (case lRi => first | k_is | k_exc | kx_is)
    (case cRi => first | k_is | k_exc | kx_is)
    (case kRi => first | k_is | k_exc | kx_is)
    (case aRa => first | k_is | k_exc | kx_is)
    (case iRa => first | k_is | k_exc | kx_is)
    (case lRa => first | k_is | k_exc | kx_is)
    (case cRa => first | k_is | k_exc | kx_is)
    (case kRa => first | k_is | k_exc | kx_is)
    (case aRl => first | k_is | k_exc | kx_is)
    (case iRl => first | k_is | k_exc | kx_is)
    (case lRl => first | k_is | k_exc | kx_is)
    (case cRl => first | k_is | k_exc | kx_is)
    (case kRl => first | k_is | k_exc | kx_is)
    (case aRe => first | k_is | k_exc | kx_is)
    (case iRe => first | k_is | k_exc | kx_is)
    (case lRe => first | k_is | k_exc | kx_is)
    (case cRe => first | k_is | k_exc | kx_is)
    (case kRe => first | k_is | k_exc | kx_is)
    (case aRg => first | k_is | k_exc | kx_is)
    (case iRg => first | k_is | k_exc | kx_is)
    (case lRg => first | k_is | k_exc | kx_is)
    (case cRg => first | k_is | k_exc | kx_is)
    (case kRg => first | k_is | k_exc | kx_is)
    (case aRh => first | k_is | k_exc | kx_is)
    (case iRh => first | k_is | k_exc | kx_is)
    (case lRh => first | k_is | k_exc | kx_is)
    (case cRh => first | k_is | k_exc | kx_is)
    (case kRh => first | k_is | k_exc | kx_is)
    (case aRm => first | k_is | k_exc | kx_is)
    (case iRm => first | k_is | k_exc | kx_is)
    (case lRm => first | k_is | k_exc | kx_is)
    (case cRm => first | k_is | k_exc | kx_is)
    (case kRm => first | k_is | k_exc | kx_is)
    (case aRw => first | k_is | k_exc | kx_is)
    (case iRw => first | k_is | k_exc | kx_is)
    (case lRw => first | k_is | k_exc | kx_is)
    (case cRw => first | k_is | k_exc | kx_is)
    (case kRw => first | k_is | k_exc | kx_is)
    (case aRo => first | k_is | k_exc | kx_is)
    (case rRo => first | k_is | k_exc | kx_is)
    (case lRo => first | k_is | k_exc | kx_is)
    (case cRo => first | k_is | k_exc | kx_is)
    (case kRo => first | k_is | k_exc | kx_is)
    (case fRo' => first | k_is | k_exc | kx_is)
    (case cr1 => first | k_is | k_exc | kx_is)
    (case cr2 => first | k_is | k_exc | kx_is)
    (case aRs => first | k_is | k_exc | kx_is)
    (case gRs => first | k_is | k_exc | kx_is)
    (case tRs => first | k_is | k_exc | kx_is)
    (case rRs => first | k_is | k_exc | kx_is)
    (case lRs => first | k_is | k_exc | kx_is)
    (case cRs => first | k_is | k_exc | kx_is)
    (case kRs => first | k_is | k_exc | kx_is)
    (case aRu => first | k_is | k_exc | kx_is)
    (case gRu => first | k_is | k_exc | kx_is)
    (case tRu => first | k_is | k_exc | kx_is)
    (case rRu => first | k_is | k_exc | kx_is)
    (case lRu => first | k_is | k_exc | kx_is)
    (case cRu => first | k_is | k_exc | kx_is)
    (case kRu => first | k_is | k_exc | kx_is)
    (case jRg => first | k_is | k_exc | kx_is)
    (case pgR => first | k_is | k_exc | kx_is)
    (case hdR => first | k_is | k_exc | kx_is)
    (case poR => first | k_is | k_exc | kx_is)
    (case saR => first | k_is | k_exc | kx_is)
    (case mkR => first | k_is | k_exc | kx_is)
    (case kcR => first | k_is | k_exc | kx_is)
    (case nR_sections => first | k_is | k_exc | kx_is)
    (case nR_units => first | k_is | k_exc | kx_is)
    (case z_isinstance => first | k_is | k_exc | kx_is)
    (case z_int => first | k_is | k_exc | kx_is)
    (case z_bool => first | k_is | k_exc | kx_is)
    (case z_str => first | k_is | k_exc | kx_is)
    (case z_tuple => first | k_is | k_exc | kx_is)
    (case z_len => first | k_is | k_exc | kx_is)
    (case z_all => first | k_is | k_exc | kx_is)
    (case z_enumerate => first | k_is | k_exc | kx_is)
    (case z_sorted => first | k_is | k_exc | kx_is)
    (case z_list => first | k_is | k_exc | kx_is)
    (case z_range => first | k_is | k_exc | kx_is)
    (case z_sum => first | k_is | k_exc | kx_is)
    (case z_min => first | k_is | k_exc | kx_is)
    (case z_ValueError => first | k_is | k_exc | kx_is)
    (case v0 => first | k_is | k_exc | kx_is)
    (case v1 => first | k_is | k_exc | kx_is)
    (case v2 => first | k_is | k_exc | kx_is)
    (case aL => first | k_is | k_exc | kx_is)
    (case aK => first | k_is | k_exc | kx_is)
    (case dlN => exact ⟨_, _, _, by k_is, by (first | exact ⟨⟨_, _, rfl, rfl⟩, ⟨_, _, rfl, rfl⟩, trivial⟩ | (constructor; exact ⟨_, _, rfl, rfl⟩; constructor; exact ⟨_, _, rfl, rfl⟩; trivial)), by k_is, ⟨_, rfl⟩⟩)
    (case dlW => exact ⟨_, _, _, by k_is, by (first | exact ⟨⟨_, _, rfl, rfl⟩, ⟨_, _, rfl, rfl⟩, trivial⟩ | (constructor; exact ⟨_, _, rfl, rfl⟩; constructor; exact ⟨_, _, rfl, rfl⟩; trivial)), by k_is, ⟨_, rfl⟩⟩)
    (case dkN => exact ⟨_, _, _, by k_is, by (first | exact ⟨⟨_, _, rfl, rfl⟩, ⟨_, _, rfl, rfl⟩, trivial⟩ | (constructor; exact ⟨_, _, rfl, rfl⟩; constructor; exact ⟨_, _, rfl, rfl⟩; trivial)), by k_is, ⟨_, rfl⟩⟩)
    (case dkW => exact ⟨_, _, _, by k_is, by (first | exact ⟨⟨_, _, rfl, rfl⟩, ⟨_, _, rfl, rfl⟩, trivial⟩ | (constructor; exact ⟨_, _, rfl, rfl⟩; constructor; exact ⟨_, _, rfl, rfl⟩; trivial)), by k_is, ⟨_, rfl⟩⟩)
    (case kM => decide)
    (case eE => first | k_is | k_exc | kx_is)
    (case e0 => first | k_is | k_exc | kx_is)
    (case e1 => first | k_is | k_exc | kx_is)
    (case e2 => first | k_is | k_exc | kx_is)
    (case e3 => first | k_is | k_exc | kx_is)
    (case e4 => first | k_is | k_exc | kx_is)
    (case dEs => first | k_is | k_exc | kx_is)
    (case dEh => first | k_is | k_exc | kx_is)
    (case dEt => first | k_is | k_exc | kx_is)
    (case d0c => first | k_is | k_exc | kx_is)
    (case d0t => first | k_is | k_exc | kx_is)
    (case d1c => first | k_is | k_exc | kx_is)
    (case d1t => first | k_is | k_exc | kx_is)
    (case d2c => first | k_is | k_exc | kx_is)
    (case d2t => first | k_is | k_exc | kx_is)
    (case d3c => first | k_is | k_exc | kx_is)
    (case d3t => first | k_is | k_exc | kx_is)
    (case d4c => first | k_is | k_exc | kx_is)
    (case d4t => first | k_is | k_exc | kx_is)
    (case r0cl => first | k_is | k_exc | kx_is)
    (case r0ga => first | k_is | k_exc | kx_is)
    (case r0gg => first | k_is | k_exc | kx_is)
    (case r0sb => first | k_is | k_exc | kx_is)
    (case r0hd => first | k_is | k_exc | kx_is)
    (case r0ct => first | k_is | k_exc | kx_is)
    (case r0mr => first | k_is | k_exc | kx_is)
    (case r0ix => first | k_is | k_exc | kx_is)
    (case r0nm => first | k_is | k_exc | kx_is)
    (case r0xe => first | k_is | k_exc | kx_is)
    (case r0kv => first | k_is | k_exc | kx_is)
    (case r0k0 => first | k_is | k_exc | kx_is)
    (case r0k1 => first | k_is | k_exc | kx_is)
    (case r0k2 => first | k_is | k_exc | kx_is)
    (case r0k3 => first | k_is | k_exc | kx_is)
    (case r0k4 => first | k_is | k_exc | kx_is)
    (case r2cl => first | k_is | k_exc | kx_is)
    (case r2ga => first | k_is | k_exc | kx_is)
    (case r2gg => first | k_is | k_exc | kx_is)
    (case r2sb => first | k_is | k_exc | kx_is)
    (case r2hd => first | k_is | k_exc | kx_is)
    (case r2ct => first | k_is | k_exc | kx_is)
    (case r2mr => first | k_is | k_exc | kx_is)
    (case r2ix => first | k_is | k_exc | kx_is)
    (case r2nm => first | k_is | k_exc | kx_is)
    (case r2xe => first | k_is | k_exc | kx_is)
    (case r2kv => first | k_is | k_exc | kx_is)
    (case r2k0 => first | k_is | k_exc | kx_is)
    (case r2k1 => first | k_is | k_exc | kx_is)
    (case r2k2 => first | k_is | k_exc | kx_is)
    (case r2k3 => first | k_is | k_exc | kx_is)
    (case r2k4 => first | k_is | k_exc | kx_is)
    (case r4cl => first | k_is | k_exc | kx_is)
    (case r4ga => first | k_is | k_exc | kx_is)
    (case r4gg => first | k_is | k_exc | kx_is)
    (case r4sb => first | k_is | k_exc | kx_is)
    (case r4hd => first | k_is | k_exc | kx_is)
    (case r4ct => first | k_is | k_exc | kx_is)
    (case r4mr => first | k_is | k_exc | kx_is)
    (case r4ix => first | k_is | k_exc | kx_is)
    (case r4nm => first | k_is | k_exc | kx_is)
    (case r4xe => first | k_is | k_exc | kx_is)
    (case r4kv => first | k_is | k_exc | kx_is)
    (case r4k0 => first | k_is | k_exc | kx_is)
    (case r4k1 => first | k_is | k_exc | kx_is)
    (case r4k2 => first | k_is | k_exc | kx_is)
    (case r4k3 => first | k_is | k_exc | kx_is)
    (case r4k4 => first | k_is | k_exc | kx_is)
    (case xS => first | k_is | k_exc | kx_is)
    (case saS => first | k_is | k_exc | kx_is)
    (case kS => first | k_is | k_exc | kx_is)
    (case aSi => first | k_is | k_exc | kx_is)
    (case tSi => first | k_is | k_exc | kx_is)
    (case lSi => first | k_is | k_exc | kx_is)
    (case cSi => first | k_is | k_exc | kx_is)
    (case kSi => first | k_is | k_exc | kx_is)
    (case xI => first | k_is | k_exc | kx_is)
    (case saI => first | k_is | k_exc | kx_is)
    (case kI => first | k_is | k_exc | kx_is)
    (case aIi => first | k_is | k_exc | kx_is)
    (case tIi => first | k_is | k_exc | kx_is)
    (case lIi => first | k_is | k_exc | kx_is)
    (case cIi => first | k_is | k_exc | kx_is)
    (case kIi => first | k_is | k_exc | kx_is)
    (case qI1 => first | k_is | k_exc | kx_is)
    (case qI2 => first | k_is | k_exc | kx_is)
    (case qI3 => first | k_is | k_exc | kx_is)
    (case qN1 => first | k_is | k_exc | kx_is)
    (case qN2 => first | k_is | k_exc | kx_is)
    (case qN3 => first | k_is | k_exc | kx_is)
    (case qB1 => first | k_is | k_exc | kx_is)
    (case qB2 => first | k_is | k_exc | kx_is)
    (case qB3 => first | k_is | k_exc | kx_is)
    (case qhn => first | k_is | k_exc | kx_is)
    (case qht => first | k_is | k_exc | kx_is)
    (case n4q => first | k_is | k_exc | kx_is)
    (case n4k => first | k_is | k_exc | kx_is)
    (case n4t => first | k_is | k_exc | kx_is)
    (case qha => first | k_is | k_exc | kx_is)
    (case qhm => first | k_is | k_exc | kx_is)
    (case qsf => first | k_is | k_exc | kx_is)
    (case qnf => first | k_is | k_exc | kx_is)
    (case qns => first | k_is | k_exc | kx_is)
    (case qkc => first | k_is | k_exc | kx_is)
    (case qkt => first | k_is | k_exc | kx_is)
    (case qks => first | k_is | k_exc | kx_is)
    (case qrm => first | k_is | k_exc | kx_is)
    (case neP01 => decide)
    (case hT => intro P hP; exact hT8 P (by rcases List.mem_cons.mp hP with z | hP; (rw [z]; k_mem); (rw [List.mem_singleton.mp hP]; k_mem)))
