import PyProof.Rows.All
import Wide.All
import OpenK.AllK
import Wide.FinOn
import HandS.ForMost
import HandS.IsInst
import HandS.DictComp
import HandS.Walk
import HandS.Wide
import HandS.EndTab
import KE.KSortKeySt
import KE.KLam
import PyProof.TupleOfSeq
import HandS.SortKw
import HandS.Lambda
import HandS.Nested
import OpenK.KMeth
import OpenK.KOps
import HandS.Star
import HandS.SlotsOwn
import HandS.ClsMeth
import HandS.Property
import HandS.More
import KE.GoesMore
import KE.GoesEnum
import PyProof.EnumMake
import PyProof.StrOps2
import HandS.NoneIn
import HandS.Conv
import HandS.Defaults
import HandS.WordsDict
import PyProof.GenComp
import HandS.GenBody
import HandS.GenYield
import HandS.GenList
import HandS.ForDict
import HandS.Words
import HandS.MapSum
import HandS.Style
import HandS.Text
import HandS.Sort
import HandS.Iter
import HandS.List
import PyProof.EqAt
import PyProof.EqKinds
import PyProof.TupleCall
import KE.KDflt
import HandS.Base
import HandS.Call
import HandS.Comp
import HandS.Exc
import HandS.Codes
import HandS.TryOnly
import PyProof.CodeObj
import HandS.ExcIs
import HandS.ExcField
import HandS.ExcInit
import HandS.WordsExc
import HandS.SetFor
import KE.KExcIs
import HandS.ExcOwn
import HandS.SortRule
import PyProof.MinMaxWalk
import HandS.TupLe
import KE.LtSeq
import PyProof.P3Eq
import KE.KNestM
import PySem.Challenge.RW_slowleaders_k07_wide_enough
/-! A stable order by int keys: the one list that is ordered and keeps the rows of equal keys. -/
namespace OwnR
def ins {α : Type} (p : Int × α) : List (Int × α) → List (Int × α)
  | [] => [p]
  | q :: r => if p.1 ≤ q.1 then p :: q :: r else q :: ins p r
def isort {α : Type} : List (Int × α) → List (Int × α)
  | [] => []
  | p :: r => ins p (isort r)
section
variable {α β : Type}
theorem ins_perm (p : Int × α) : ∀ l : List (Int × α), (ins p l).Perm (p :: l)
  | [] => List.Perm.refl _
  | q :: r => by
    unfold ins
    split
    · exact List.Perm.refl _
    · exact ((ins_perm p r).cons q).trans (List.Perm.swap p q r)
theorem isort_perm : ∀ l : List (Int × α), (isort l).Perm l
  | [] => List.Perm.refl _
  | p :: r => (ins_perm p _).trans ((isort_perm r).cons p)
theorem ins_up (p : Int × α) : ∀ l : List (Int × α), l.Pairwise (fun a b => a.1 ≤ b.1) → (ins p l).Pairwise (fun a b => a.1 ≤ b.1)
  | [], _ => by simp [ins]
  | q :: r, h => by
    unfold ins
    have h1 := List.pairwise_cons.mp h
    split
    · rename_i hpq
      refine List.pairwise_cons.mpr ⟨fun b hb => ?_, h⟩
      rcases List.mem_cons.mp hb with rfl | hb
      · exact hpq
      · exact Int.le_trans hpq (h1.1 b hb)
    · rename_i hpq
      refine List.pairwise_cons.mpr ⟨fun b hb => ?_, ins_up p r h1.2⟩
      rcases List.mem_cons.mp ((ins_perm p r).mem_iff.mp hb) with rfl | hb
      · omega
      · exact h1.1 b hb
theorem isort_up : ∀ l : List (Int × α), (isort l).Pairwise (fun a b => a.1 ≤ b.1)
  | [] => List.Pairwise.nil
  | p :: r => ins_up p _ (isort_up r)
theorem ins_row (p : Int × α) (z : Int) : ∀ l : List (Int × α), (ins p l).filter (fun a => a.1 == z) = (p :: l).filter (fun a => a.1 == z)
  | [] => rfl
  | q :: r => by
    unfold ins
    split
    · rfl
    · rename_i hpq
      rw [List.filter_cons, ins_row p z r]
      by_cases h1 : p.1 = z
      · have h2 : (q.1 == z) = false := by simp; omega
        simp [List.filter_cons, h1, h2]
      · have h3 : (p.1 == z) = false := by simp [h1]
        simp [List.filter_cons, h3]
theorem isort_row (z : Int) : ∀ l : List (Int × α), (isort l).filter (fun a => a.1 == z) = l.filter (fun a => a.1 == z)
  | [] => rfl
  | p :: r => by
    unfold isort
    rw [ins_row, List.filter_cons, List.filter_cons, isort_row z r]
theorem eq_of_rows : ∀ l k : List (Int × α), l.Pairwise (fun a b => a.1 ≤ b.1) → k.Pairwise (fun a b => a.1 ≤ b.1) → (∀ z, l.filter (fun a => a.1 == z) = k.filter (fun a => a.1 == z)) → l = k
  | [], [], _, _, _ => rfl
  | [], b :: k, _, _, h => by
    have := h b.1
    simp at this
  | a :: l, [], _, _, h => by
    have := h a.1
    simp at this
  | a :: l, b :: k, hl, hk, h => by
    have l1 := List.pairwise_cons.mp hl
    have k1 := List.pairwise_cons.mp hk
    have hab : a.1 = b.1 := by
      rcases Int.lt_trichotomy a.1 b.1 with c | c | c
      · exfalso
        have e := h a.1
        rw [List.filter_cons, if_pos (by simp)] at e
        have m : a ∈ (b :: k).filter (fun x => x.1 == a.1) := by rw [← e]; exact List.mem_cons_self
        have m1 := List.mem_filter.mp m
        rcases List.mem_cons.mp m1.1 with e1 | e1
        · rw [e1] at c; omega
        · have := k1.1 a e1; omega
      · exact c
      · exfalso
        have e := h b.1
        have m : b ∈ (a :: l).filter (fun x => x.1 == b.1) := by
          rw [e, List.filter_cons, if_pos (by simp)]; exact List.mem_cons_self
        have m1 := List.mem_filter.mp m
        rcases List.mem_cons.mp m1.1 with e1 | e1
        · rw [e1] at c; omega
        · have := l1.1 b e1; omega
    have e := h a.1
    rw [List.filter_cons, if_pos (by simp), List.filter_cons, if_pos (by simp [hab])] at e
    have e0 : a = b := (List.cons.inj e).1
    subst e0
    refine congrArg _ (eq_of_rows l k l1.2 k1.2 fun z => ?_)
    have ez := h z
    by_cases c : a.1 = z
    · rw [List.filter_cons, if_pos (by simp [c]), List.filter_cons, if_pos (by simp [c])] at ez
      exact (List.cons.inj ez).2
    · rw [List.filter_cons, if_neg (by simp [c]), List.filter_cons, if_neg (by simp [c])] at ez
      exact ez
theorem isort_unique {l k : List (Int × α)} (h1 : k.Pairwise (fun a b => a.1 ≤ b.1)) (h2 : ∀ z, k.filter (fun a => a.1 == z) = l.filter (fun a => a.1 == z)) : k = isort l :=
  eq_of_rows k (isort l) h1 (isort_up l) fun z => (h2 z).trans (isort_row z l).symm
theorem ins_map (f : α → β) (p : Int × α) : ∀ l : List (Int × α), ins (p.1, f p.2) (l.map fun q => (q.1, f q.2)) = (ins p l).map fun q => (q.1, f q.2)
  | [] => rfl
  | q :: r => by
    simp only [List.map_cons, ins]
    split
    · rfl
    · rw [ins_map f p r, List.map_cons]
theorem isort_map (f : α → β) : ∀ l : List (Int × α), isort (l.map fun q => (q.1, f q.2)) = (isort l).map fun q => (q.1, f q.2)
  | [] => rfl
  | p :: r => by
    simp only [List.map_cons, isort]
    rw [isort_map f r, ins_map f p]
/-- the items in the order of their keys, stable -/
def sortBy (key : α → Int) (l : List α) : List α := (isort (l.map fun x => (key x, x))).map (·.2)
theorem sortBy_perm (key : α → Int) (l : List α) : (sortBy key l).Perm l := by
  have h := (isort_perm (l.map fun x => (key x, x))).map (·.2)
  rw [List.map_map] at h
  have e : ((fun x : Int × α => x.2) ∘ fun x => (key x, x)) = id := rfl
  rw [e, List.map_id] at h
  exact h
theorem sortBy_map (f : α → β) (k1 : α → Int) (k2 : β → Int) (l : List α) (h : ∀ x ∈ l, k2 (f x) = k1 x) : sortBy k2 (l.map f) = (sortBy k1 l).map f := by
  unfold sortBy
  have e : ((l.map f).map fun x => (k2 x, x)) = (l.map fun x => (k1 x, x)).map fun q => (q.1, f q.2) := by
    rw [List.map_map, List.map_map]
    refine List.map_congr_left fun x hx => ?_
    show (k2 (f x), f x) = (k1 x, f x)
    rw [h x hx]
  rw [e, isort_map, List.map_map, List.map_map]
  rfl
theorem sortBy_congr (k1 k2 : α → Int) (l : List α) (h : ∀ x ∈ l, k2 x = k1 x) : sortBy k2 l = sortBy k1 l := by
  have := sortBy_map (fun x => x) k1 k2 l h
  simpa using this
end
end OwnR

set_option Elab.async false
set_option linter.all false
set_option maxRecDepth 100000
set_option maxHeartbeats 2000000
namespace OwnR
open PySem PySem.Spec PyProof.Rows L2 LamX
/-! ### sorted(xs, key=lambda y: ..) -/
section
variable {prog : Program} {w : World} {A : Around} {E : Value → Shared → Prop} {s : Shared} {g0 : Heap} {L : Addr} {m : Str → Option Value} {news : List (Addr × Obj)} {vs : List Value}
/-- the new list is sorted by its keys and handed out -/
theorem sort_tail {R : PySem.Fin → Shared → Prop} {kz : List Int} {g : Addr} (F : Fr g0 L s.heap m) (N : News g0 L s.heap news) (hl : kz.length = vs.length) (hz : vs.length ≤ sizeLine)
    (turn : ∀ (i : Nat) (v : Value) (k : Int), vs[i]? = some v → kz[i]? = some k → ∀ (h : Heap) (tk : Nat) (own : List (Addr × Obj)), Fr g0 L h m → News g0 L h (news ++ own) →
      wpAny (model prog w) A.in1 (call (.ref g) [v]) (KskEnd g0 L m (news ++ own) k { s with heap := h, toks := tk }) (fun _ _ => False) { s with heap := h, toks := tk })
    (done : ∀ h' tk out c, Fr g0 L h' m → News g0 L h' ((s.heap.objs.size, seqObj "list" out c) :: news) → KskOutSt false kz vs out.toList → R (.done (.ret (.ref s.heap.objs.size))) { s with heap := h', toks := tk }) :
    wpAny (model prog w) A (newList vs >>= fun l => holding [l] (call (.builtin "list.sort") [l] [(Str.ofString "key", .ref g)]) >>= fun _ => ret l) R E s := by
  have hL : L < s.heap.objs.size := F.ns.lt
  have at0 : (s.heap.push (seqObj "list" vs.toArray 0)).get? s.heap.objs.size = some (seqObj "list" vs.toArray 0) := Heap.get?_push_size _ rfl
  have kp : ∀ b o, s.heap.get? b = some o → (s.heap.push (seqObj "list" vs.toArray 0)).get? b = some o := fun b o e => Heap.get?_push_of_some _ e
  refine wpAny_bind (wpAny_newList ?_ hz)
  show wpAny _ _ _ _ _ { s with heap := s.heap.push (seqObj "list" vs.toArray 0) }
  refine wpAny_bind (wpAny_holding (wpAny_call_entry_kw slot_list_sort ⟨_, at0, rfl⟩ entry_list_sort ?body (ksk_l1 _ _)))
  case body =>
    have et := ksk_t1 g s.heap.objs.size
    show wpAny (model prog w) A.in1 (Builtin.«list.sort» ⟨[.ref s.heap.objs.size], [(Str.ofString "key", .ref g)]⟩) _ _ _
    rw [et]
    refine ksk_sortSt (h₀ := g0) (L := L) (m := m) (news := news) (kz := kz) (vs := vs) (s := { s with heap := s.heap.push (seqObj "list" vs.toArray 0) })
      (F.kept kp) (N.grown kp) at0 (Nat.ne_of_gt hL) (Heap.get?_none_of_le (Nat.le_trans F.above (Nat.le_of_lt hL))) (fun p hp => Nat.ne_of_lt (Heap.lt_size (N p hp).1)) hl hz turn
      fun h' tk out c F' N' k' => ⟨_, rfl, wpAny_pure (done h' tk out c F' N' k')⟩
end
/-- a value of the heap, without its token -/
def toV : Value → V
  | .none => .non
  | .bool b => .bl b
  | .int i _ => .int i
  | .str x _ => .str x
  | .bytes b _ => .byt b
  | .float b _ => .flt b
  | .ref a => .ref a
  | .type n => .ty n
  | _ => .non
theorem toV_of {x : V} {u : Value} (r : RelV x u) : toV u = x := by
  cases x with
  | non => cases (show u = Value.none from r); rfl
  | bl b => cases (show u = Value.bool b from r); rfl
  | int i => obtain ⟨t, e⟩ := (show ∃ t, u = Value.int i t from r); cases e; rfl
  | str x => obtain ⟨t, e⟩ := (show ∃ t, u = Value.str x t from r); cases e; rfl
  | byt b => obtain ⟨t, e⟩ := (show ∃ t, u = Value.bytes b t from r); cases e; rfl
  | flt b => obtain ⟨t, e⟩ := (show ∃ t, u = Value.float b t from r); cases e; rfl
  | ref a => cases (show u = Value.ref a from r); rfl
  | ty n => cases (show u = Value.type n from r); rfl
theorem toV_map {xs : List V} {us : List Value} (r : Vals xs us) : us.map toV = xs := by
  induction r with
  | nil => rfl
  | cons a _ ih => rw [List.map_cons, ih, toV_of a]
theorem vals_toV : ∀ {us : List Value}, (∀ u ∈ us, RelV (toV u) u) → Vals (us.map toV) us
  | [], _ => .nil
  | u :: us, h => .cons (h u List.mem_cons_self) (vals_toV fun v hv => h v (List.mem_cons_of_mem _ hv))
theorem vals_all {xs : List V} {us : List Value} (r : Vals xs us) : ∀ u ∈ us, RelV (toV u) u := by
  induction r with
  | nil => intro u hu; cases hu
  | cons a _ ih =>
    intro u hu
    rcases List.mem_cons.mp hu with rfl | hu
    · rw [toV_of a]; exact a
    · exact ih u hu
/-- what comes out, by values -/
theorem out_of {kz : List Int} {vs out : List Value} {xs : List V} (hl : kz.length = vs.length) (r : Vals xs vs) (k : KskOutSt false kz vs out) :
    ∃ ys, Vals ys out ∧ ys = (isort (kz.zip xs)).map (·.2) := by
  obtain ⟨ps, hp, ho, hs, hst⟩ := k
  have hs' : ps.Pairwise (fun a b => a.1 ≤ b.1) := hs
  have e := isort_unique hs' hst
  have e2 : kz.zip xs = (kz.zip vs).map fun q => (q.1, toV q.2) := by
    rw [← toV_map r, List.zip_map_right]
    rfl
  refine ⟨out.map toV, vals_toV fun u hu => ?_, ?_⟩
  · rw [ho] at hu
    obtain ⟨p, hm, rfl⟩ := List.mem_map.mp hu
    exact vals_all r _ (List.of_mem_zip (hp.mem_iff.mp hm)).2
  · rw [e2, isort_map, ho, e, List.map_map, List.map_map]
    rfl
/-- what a key's body gives for the value u: the int k, nothing changed -/
def KeyRun (X : Cx) (par : Str) (body : Expr) (scope : Scope) (s : Shared) (u : Value) (k : Int) : Prop :=
  ∀ (A : Around) (L' f c' : Addr) (h1 : Heap) (tk : Nat), (∀ b o, s.heap.get? b = some o → b ≠ X.env.locals → h1.get? b = some o) → h1.Ns L' (fun y => ([(par, u)] : List (Str × Value)).reverse.lookup y) →
    wpAny (model X.prog X.w) A (eval body (PySem.W.envX (X.env.qual ++ "<lambda>") scope L' f (.ref c') (cloFrom X.env.cells scope.names []))) (fun v s' => ∃ t tk', v = .int k t ∧ s' = { s with heap := h1, toks := tk' }) (fun _ _ => False)
      { s with heap := h1, toks := tk }
/-- the lambda's scope: its parameter, no cell of its own, captured names of the maker -/
structure LamP (sc scope : Scope) (par : Str) : Prop where
  kind : scope.kind = .function
  co : scope.isCoroutine = false
  gen : scope.isGenerator = false
  cell : ∀ y ∈ scope.names, y.2 ≠ .cell
  par : scope.names.lookup par = some .local
  free : ∀ y ∈ scope.names, y.2 = .free → sc.names.lookup y.1 = some .cell ∨ sc.names.lookup y.1 = some .free
def lamPB (sc scope : Scope) (par : Str) : Bool :=
  decide (scope.kind = .function) && !scope.isCoroutine && !scope.isGenerator && decide (scope.names.lookup par = some .local) && scope.names.all fun y => !decide (y.2 = .cell) && (!decide (y.2 = .free) || decide (sc.names.lookup y.1 = some .cell) || decide (sc.names.lookup y.1 = some .free))
theorem lamP_by {sc scope : Scope} {par : Str} (h : lamPB sc scope par = true) : LamP sc scope par := by
  unfold lamPB at h
  simp only [Bool.and_eq_true, Bool.or_eq_true, Bool.not_eq_true', decide_eq_true_eq, decide_eq_false_iff_not, List.all_eq_true] at h
  obtain ⟨⟨⟨⟨h1, h2⟩, h3⟩, h4⟩, h5⟩ := h
  refine ⟨h1, h2, h3, fun y hy => (h5 y hy).1, h4, fun y hy e => ?_⟩
  rcases (h5 y hy).2 with (z | z) | z
  · exact absurd e z
  · exact .inl z
  · exact .inr z
theorem LamP.has {X : Cx} {scope : Scope} {par : Str} (l : LamP X.env.scope scope par) (ok : X.Ok) : ∀ y ∈ scope.names, y.2 = .free → ∃ c, X.env.cells.lookup y.1 = some c := fun y hy e =>
  (l.free y hy e).elim (fun z => ok.has _ (.inl z)) fun z => ok.has _ (.inr z)
/-- the keys' readings: σ, H ahead; the item; its key -/
abbrev TKey := L2.St → Hp → V → Int → Prop
structure PKey (X : Cx) (par : Str) (body : Expr) (scope : Scope) (r : TKey) : Prop where
  run : ∀ (pins : List (Addr × Obj)) (s : Shared) (σ : L2.St) (H : Hp) (x : V) (u : Value) (k : Int), Inv X pins σ H s → RelV x u → r σ H x k → KeyRun X par body scope s u k
/-- sorted(xs, key=lambda y: body): T the tables of code objects -/
def sortWant (K : PySem.W.Frag) (T : List (Addr × Str)) (r : TKey) (σ : L2.St) (Q : VK) : V → Hp → Prop := fun x H1 => ∃ (p : Addr) (xs : List V) (ks : List Int), x = .ref p ∧ (SqL K H1 p xs ∨ SqT K H1 p xs) ∧ ks.length = xs.length ∧
  Tabs T H1 ∧ (∀ H2, ExtN H1 H2 → ∀ (i : Nat) (x : V) (k : Int), xs[i]? = some x → ks[i]? = some k → r σ H2 x k) ∧
  ∀ H2 D, ExtN H1 H2 → Tabs T H2 → H2 D = none → Q (.ref D) (upd H2 D (.lst ((isort (ks.zip xs)).map (·.2))))
def tSortLam (K : PySem.W.Frag) (T : List (Addr × Str)) (te : TE) (r : TKey) : TE := fun σ H Q => te σ H (sortWant K T r σ Q)
def one1 (g : V → Hp → Prop) : List V → Hp → Prop := fun vs H => match vs with
  | [x] => g x H
  | _ => False
theorem one1_of {g : V → Hp → Prop} {vs : List V} {H : Hp} (h : one1 g vs H) : ∃ x, vs = [x] ∧ g x H := by
  match vs, h with
  | [x], h => exact ⟨x, rfl, h⟩
theorem ns_one {h : Heap} {a : Addr} {m m' : Str → Option Value} (x : h.Ns a m) (y : h.Ns a m') : m = m' := by
  obtain ⟨o, es, ep, ho, hd, _, hm⟩ := x
  obtain ⟨o', es', ep', ho', hd', _, hm'⟩ := y
  rw [ho] at ho'
  cases ho'
  rw [hd] at hd'
  cases hd'
  funext z
  rw [← hm z, hm' z]
/-- a new object, all others kept but the frame's, whose names stay -/
theorem inv_laidL {X : Cx} {pins : List (Addr × Obj)} {σ : L2.St} {H : Hp} {s : Shared} {h' : Heap} {D tk : Nat} {o : HO} {m : Str → Option Value} (I : Inv X pins σ H s) (hn : s.heap.Ns X.env.locals m) (hn' : h'.Ns X.env.locals m)
    (k : ∀ b u, s.heap.get? b = some u → b ≠ X.env.locals → h'.get? b = some u) (hD : s.heap.objs.size ≤ D) (new : ObjOk X.prog X.w (upd H D o) h' D o) : Inv X pins σ (upd H D o) { s with heap := h', toks := tk } := by
  have fD : H D = none := I.hok.fresh hD
  have old : ∀ b u, s.heap.get? b = some u → b ≠ D := fun b u e => Nat.ne_of_lt (Nat.lt_of_lt_of_le (Heap.lt_size e) hD)
  have trL : ∀ b u, H b = some u → b ≠ X.env.locals := fun b u e => ne_of_none e I.free
  refine I.step (g' := s.gens) (d' := s.drawn) (t' := tk) (ch := []) (fun _ z => nomatch z) (fun b u nb _ _ e _ => k b u e nb) (fun b u nb _ _ e _ => ⟨u.slots, k b u e nb⟩) (fun b u _ e n => by rw [upd_ne (old b u e)]; exact n) (fun b u _ e => ?_)
    (fun b ys e => by rw [upd_ne (ne_of_none e fD)]; exact e) (fun b u v e => by rw [upd_ne (ne_of_none e fD)]; exact e) (fun b ps e => ⟨#[], by rw [upd_ne (ne_of_none e fD), e]; simp⟩) (fun m' hm => ?_) (fun b u e => ?_) I.bare
  · by_cases hb : b = X.env.locals
    · obtain ⟨ob, _, _, e1, _⟩ := hn'
      exact ⟨ob, by rw [hb]; exact e1⟩
    · exact ⟨u, k b u e hb⟩
  · rw [ns_one hm hn]
    exact hn'
  · by_cases hb : b = D
    · rw [hb, upd_same] at e
      cases e
      rw [hb]
      exact new
    · rw [upd_ne hb] at e
      refine (I.hok b u e).stay (fun c v hc q => k c v q ?_) (fun c q => by rw [upd_ne (ne_of_none q fD)]; exact q) fun c ys q => by rw [upd_ne (ne_of_none q fD)]; exact q
      rcases hc with z | z
      · rw [z]
        exact trL b u e
      · exact trL c _ z
theorem seq_at {X : Cx} {pins : List (Addr × Obj)} {σ : L2.St} {H : Hp} {s : Shared} {p : Addr} {xs : List V} (I : Inv X pins σ H s) (h : SqL X.K H p xs ∨ SqT X.K H p xs) :
    ∃ (its : List Value) (T : String) (o : Obj) (n : Nat), Vals xs its ∧ (T = "list" ∨ T = "tuple") ∧ s.heap.get? p = some o ∧ o.cls = .type T ∧ o.data = .seq its.toArray n ∧ xs.length ≤ sizeLine := by
  rcases h with h | h
  · obtain ⟨its, r, pl, hz⟩ := I.list h
    obtain ⟨o, ho, hc, n, hd⟩ := pl.isList
    exact ⟨its, "list", o, n, r, .inl rfl, ho, hc, hd, hz⟩
  · obtain ⟨its, r, ⟨o, ho, hc, n, hd⟩, hz⟩ := I.tuple h
    exact ⟨its, "tuple", o, n, r, .inr rfl, ho, hc, hd, hz⟩
theorem pe_sortLam {X : Cx} {T : List (Addr × Str)} {c P : Addr} {te : TE} {r : TKey} {e body : Expr} {params : Arguments} {scope : Scope} {par : Str} {p1 pos lpos kpos : Pos} (hr : Room 2 X.A) (TB : TabB X.base X.mg c P) (hcode : X.env.code = .ref c)
    (hm : (P, X.env.qual ++ "<lambda>") ∈ T) (hu : ∀ p ∈ T, p.1 = P → p.2 = X.env.qual ++ "<lambda>") (hg : Gl X "sorted") (hms : X.mg "sorted" = none) (lp : LamP X.env.scope scope par) (he : PE X e te) (hk : PKey X par body scope r)
    (hdef : defaultsOf params X.env = ([], []) := by rfl)
    (hb : ∀ (cl : List (Str × Addr)) (pm cdv ct v : Value), bindArgs (PySem.W.kla_fn "<lambda>" (X.env.qual ++ "<lambda>") params body scope cl pm cdv ct) ⟨[v], []⟩ = pure [(par, v)] := by intros; rfl)
    (h0 : starEach [e] X.env = (false, eval e X.env) :: starEach [] X.env := by rfl)
    (h1 : backTo pos (starEach [e] X.env) = (false, eval e X.env) :: backTo pos (starEach [] X.env) := by rfl) (h2 : (backTo pos (starEach [e] X.env)).any (·.1) = false := by rfl)
    (h3 : (backToKw pos (keywordEach [⟨some "key", .Lambda params body scope lpos, kpos⟩] X.env)).all (·.1.isSome) = true := by rfl) (h4 : (backToKw pos (keywordEach [⟨some "key", .Lambda params body scope lpos, kpos⟩] X.env)).any (·.1.isNone) = false := by rfl)
    (h5 : (backToKw pos (keywordEach [⟨some "key", .Lambda params body scope lpos, kpos⟩] X.env)).filterMap (·.1) = [Str.ofString "key"] := by rfl) :
    PE X (.Call (.Name "sorted" p1) [e] [⟨some "key", .Lambda params body scope lpos, kpos⟩] pos) (tSortLam X.K T te r) := by
  have hpa : PA X [e] (tCons te tNil) := pa_cons he pa_nil h0
  refine ⟨fun pins s σ H Q I h => ?_⟩
  refine wpAny_Call_Name_kw (ld_blt I hg hms (by decide +kernel : bootBuiltins "sorted" = some (.builtin "sorted")) ?_)
  refine PyProof.Rows.callWith_kw (thn (hpa.run pos pins s σ H (one1 (sortWant X.K T r σ Q)) I h) fun us s1 hs1 => ?_) h1 h2 h3 h4
  obtain ⟨vs, H1, I1, rv, hq⟩ := hs1
  obtain ⟨x, rfl, hq⟩ := one1_of hq
  obtain ⟨p, xs, ks, rfl, hsq, hlk, hT, hR, q⟩ := hq
  obtain ⟨u1, rfl, ru⟩ := vals1 rv
  cases (show u1 = Value.ref p from ru)
  rw [h5]
  show wpAny _ _ (evalAll ((do let v ← eval (.Lambda params body scope lpos) X.env; standAt pos; pure v) :: [])) _ _ s1
  refine wpAny_evalAll_cons (wpAny_bind (lam_make2 I1 TB hcode hm hu hT hdef (lp.has I1.ok) fun f c' pm ctv H2 s2 I2 eN T2 hf hfn hfs hc => wpAny_bind (wpAny_standAt (wpAny_pure (wpAny_pure ?_)))))
  show wpAny _ _ (call (.builtin "sorted") [.ref p] [(Str.ofString "key", .ref f)]) _ _ s2
  have hsq2 : SqL X.K H2 p xs ∨ SqT X.K H2 p xs := by
    rcases hsq with ((z | ⟨o, z⟩) | z) | ((z | ⟨o, z⟩) | z)
    · exact .inl (.inl (.inl (eN _ _ z (fun _ y => nomatch y))))
    · exact .inl (.inl (.inr ⟨o, eN _ _ z (fun _ y => nomatch y)⟩))
    · exact .inl (.inr z)
    · exact .inr (.inl (.inl (eN _ _ z (fun _ y => nomatch y))))
    · exact .inr (.inl (.inr ⟨o, eN _ _ z (fun _ y => nomatch y)⟩))
    · exact .inr (.inr z)
  obtain ⟨its, Ty, o, n, rI, hTy, ho, hcl, hd, hz⟩ := seq_at I2 hsq2
  have hli := rI.length
  refine PyProof.Rows.call_function_entry_kw kind_sorted plain_sorted entry_sorted (ksk_s1 _ _) ?_
  show wpAny _ _ (checkCount "sorted" 1 1 1 >>= fun _ => collect (.ref p) >>= fun vs => newList vs >>= fun l => holding [l] (call (.builtin "list.sort") [l] [(Str.ofString "key", .ref f)]) >>= fun _ => ret l) _ _ _
  refine wpAny_bind (m := checkCount "sorted" 1 1 1) (wpAny_pure (wpAny_bind (wpAny_collect_seq p hTy ho hcl hd (fun h' kp => ?_) (by rw [List.size_toArray]; omega))))
  have e1 : its.toArray.toList = its := by simp
  rw [e1]
  have I3 : Inv X pins σ H2 { s2 with heap := h', toks := s2.toks } := I2.kept kp
  obtain ⟨m, F⟩ := I3.fr
  have N := news_all (g := X.base) (h := h') (L := X.env.locals)
  have keepAll : ∀ {hh : Heap} {mm : Str → Option Value} {own : List (Addr × Obj)}, Fr X.base X.env.locals hh mm → News X.base X.env.locals hh (allNews X.base h' X.env.locals ++ own) → ∀ b ob, h'.get? b = some ob → b ≠ X.env.locals → hh.get? b = some ob := by
    intro hh mm own F' N' b ob eb nb
    cases q : X.base.get? b with
    | some ob' =>
      have := I3.bk b ob' q
      rw [eb] at this
      cases this
      exact F'.keep b _ q
    | none => exact (N' (b, ob) (List.mem_append_left _ (mem_allNews nb q eb))).1
  have hr1 : Room 1 X.A.in1 := hr.in1
  refine sort_tail (kz := ks) F N (by rw [hlk, hli]) (by rw [← hli]; exact hz) (fun i v k hv hk' hh tk own F' N' => ?_) fun hh tk out cc F' N' ko => ?_
  · have hi : i < its.length := (List.getElem?_eq_some_iff.mp hv).1
    obtain ⟨x, hx⟩ : ∃ x, xs[i]? = some x := ⟨_, List.getElem?_eq_getElem (by omega)⟩
    obtain ⟨v', hv', rx⟩ := rI.get hx
    have ev : v' = v := Option.some.inj (hv'.symm.trans hv)
    subst ev
    have nfL : f ≠ X.env.locals := fun z => by
      obtain ⟨mL, ⟨oL, _, _, eL, dL, _⟩, _⟩ := I2.loc
      rw [← z, hf] at eL
      cases eL
      cases dL
    have hff := keepAll F' N' f _ (kp _ _ hf) nfL
    obtain ⟨⟨oc, cv, ct, d1, d2, d3⟩, _, _⟩ := I2.hok c' _ hc
    have hcc := keepAll F' N' c' _ (kp _ _ d1) (ne_of_none hc I2.free)
    refine wpAny_call (PySem.W.kla_callFunE hr.in1.in1.depth hff rfl lp.co lp.gen rfl ⟨c', oc, cv, ct, rfl, hcc, d2, d3⟩ ?_)
    rw [hb]
    refine wpAny_pure (wpAny_newFunctionEnv lp.cell (fun y hy => ?_) (fun h₁ hns hsb => ⟨(I2.ok.mod.nolimit.keeps F'.keep).fresh _ hsb, ?_⟩) lp.kind)
    · rw [List.mem_singleton.mp hy]
      exact lp.par
    · have kp1 : ∀ b ob, hh.get? b = some ob → h₁.get? b = some ob := fun b ob e => hsb.extBut b ob (Nat.ne_of_lt (Heap.lt_size e)) (Heap.get?_push_of_some _ e)
      show codeAny _ _ (.expr body (PySem.W.envX (X.env.qual ++ "<lambda>") scope hh.objs.size f (.ref c') (cloFrom X.env.cells scope.names []))) _ _
      refine PySem.W.kla_codeExpr (wpAny_mono (hk.run pins _ σ H2 x v' k I3 rx (hR H2 eN i x k hx hk') _ hh.objs.size f c' h₁ (tk + 1) (fun b ob e nb => kp1 b ob (keepAll F' N' b ob e nb)) hns) (fun v s' hq => ?_) fun _ _ z => z.elim)
      obtain ⟨t, tk', ev, es⟩ := hq
      exact ⟨h₁, tk', t, es, ev, ⟨F'.ns.keeps kp1, fun b ob e => kp1 b ob (F'.keep b ob e), F'.above⟩, fun z hz => ⟨kp1 _ _ (N' z hz).1, (N' z hz).2⟩⟩
  · obtain ⟨ys, r2, ey⟩ := out_of (by rw [hlk, hli]) rI ko
    have lo : ys.length = xs.length := by
      rw [ey, List.length_map, (isort_perm _).length_eq, List.length_zip, hlk, Nat.min_self]
    have at1 := (N' _ List.mem_cons_self).1
    have I4 := inv_laidL (D := h'.objs.size) (tk := tk) (o := .lst ys) I3 F.ns F'.ns (fun b ob e nb => keepAll (own := []) F' (fun z hz => N' z (List.mem_cons_of_mem _ (by simpa using hz))) b ob e nb) (Nat.le_refl _)
      ⟨by rw [lo]; exact hz, out.toList, cc, r2, by rw [Array.toArray_toList]; exact at1⟩
    refine ⟨_, rfl, .ref h'.objs.size, _, I4, rfl, ?_⟩
    rw [ey]
    exact q H2 h'.objs.size eN T2 (I3.hok.fresh (Nat.le_refl _))
end OwnR

set_option Elab.async false
set_option linter.all false
set_option maxRecDepth 100000
set_option maxHeartbeats 2000000
namespace OwnR
open PySem PySem.Spec PyProof.Rows L2 LamX
/-! ### two bodies of keys: d[y], d captured; y[n] of a tuple -/
/-- what is read of a tracked object stays where all but the frame is kept -/
theorem ok_keepL {X : Cx} {pins : List (Addr × Obj)} {σ : L2.St} {H : Hp} {s : Shared} {h' : Heap} {b : Addr} {u : HO} (I : Inv X pins σ H s) (k : ∀ b o, s.heap.get? b = some o → b ≠ X.env.locals → h'.get? b = some o) (e : H b = some u) : ObjOk X.prog X.w H h' b u := by
  refine (I.hok b u e).stay (fun c v hc q => k c v q ?_) (fun _ q => q) fun _ _ q => q
  rcases hc with z | z
  · rw [z]
    exact ne_of_none e I.free
  · exact ne_of_none z I.free
theorem rd_keepL {X : Cx} {pins : List (Addr × Obj)} {σ : L2.St} {H : Hp} {s : Shared} {h' : Heap} {b : Addr} {u : HO} (I : Inv X pins σ H s) (k : ∀ b o, s.heap.get? b = some o → b ≠ X.env.locals → h'.get? b = some o) (e : Rd H b u) : ObjOk X.prog X.w H h' b u := by
  rcases e with e | ⟨o, e⟩
  · exact ok_keepL I k e
  · exact (ok_keepL I k e).2
def keyDict (j : Nat) : TKey := fun σ H x k => ∃ (a : Addr) (kvs : List (Key × V)) (key : Key), σ[j]? = some (some (.ref a)) ∧ Rd H a (.dK kvs) ∧ x = kV key ∧ valV kvs key = some (.int k)
theorem pk_dict {X : Cx} {par d : Str} {scope : Scope} {p1 p2 p3 : Pos} {j : Nat} (hN : X.N[j]? = some d) (hd : (d, NameKind.free) ∈ scope.names) (hl : scope.names.lookup d = some .free) (lp : LamP X.env.scope scope par)
    (hv : Vis X.env.scope d) (n1 : (d == ("__debug__" : Str)) = false := by decide) (n2 : (par == ("__debug__" : Str)) = false := by decide) (n3 : (d == ("__classdict__" : Str)) = false := by decide) (hsl : NoSl (.Name par p2) := by exact fun _ _ => rfl) :
    PKey X par (.Subscript (.Name d p1) (.Name par p2) p3) scope (keyDict j) := by
  refine ⟨fun pins s σ H x u k I rx hr A L' f c' h1 tk kp hns => ?_⟩
  obtain ⟨a, kvs, key, hs, hrd, ex, hval⟩ := hr
  subst ex
  have hfree := lp.has I.ok
  obtain ⟨m, hm, hlook⟩ := I.loc
  obtain ⟨w', rw', lk⟩ := hlook j d (.ref a) hN hs hv
  cases (show w' = Value.ref a from rw')
  have kd : X.env.scope.names.lookup d = some .cell ∨ X.env.scope.names.lookup d = some .free := lp.free _ hd rfl
  obtain ⟨c, hc, hcell⟩ : ∃ c, X.env.cells.lookup d = some c ∧ s.heap.IsCell c (some (.ref a)) := by
    rcases lk with ⟨k1, _⟩ | ⟨_, c, hc, z⟩
    · have k1 : X.env.scope.names.lookup d = some .local := k1
      rcases kd with k2 | k2 <;> rw [k2] at k1 <;> cases k1
    · exact ⟨c, hc, z⟩
  have hcell' : h1.IsCell c (some (.ref a)) := by
    obtain ⟨o, ho, hd'⟩ := hcell
    exact ⟨o, kp c o ho (I.cne d c hc), hd'⟩
  have hclo : (cloFrom X.env.cells scope.names []).lookup d = some c := NdefX.clo_has hfree hd hc
  obtain ⟨z, hsm, vs, rel, dd⟩ := (show ObjOk X.prog X.w H h1 a (.dK kvs) from rd_keepL I kp hrd)
  obtain ⟨w2, hw, rw2⟩ := RelO.some_of (v := .int k) (o := valueAt vs key) (by rw [← hval]; exact rel.val key)
  obtain ⟨t, rfl⟩ := (show ∃ t, w2 = Value.int k t from rw2)
  have tdict : ∀ tk', ({ s with heap := h1, toks := tk' } : Shared).TypeIs (.ref a) "dict" := fun tk' => (dd.mapOf).typeIs
  refine subD_of PySem.F.slot_dict_getitem.lookup hsl (wpAny_Name (wpAny_loadName_free lp.kind hl hclo hcell' ?_ n3) n1)
  refine wpAny_Name (wpAny_loadName_local (v := u) lp.kind lp.par hns ?_ ?_) n2
  · show ([(par, u)] : List (Str × Value)).reverse.lookup par = some u
    simp [List.lookup]
  · exact ⟨tdict _, wpAny_getItem_of (kV_is rx) dd.mapOf hw ⟨t, _, rfl, rfl⟩⟩
def keyItem (K : PySem.W.Frag) (n : Nat) : TKey := fun σ H x k => ∃ (t : Addr) (ys : List V), x = .ref t ∧ SqT K H t ys ∧ ys[n]? = some (.int k)
theorem pk_item {X : Cx} {par : Str} {scope : Scope} {p1 p2 p3 : Pos} {n j : Nat} (lp : LamP X.env.scope scope par) (hn : n < 1000) (n2 : (par == ("__debug__" : Str)) = false := by decide) :
    PKey X par (.Subscript (.Name par p1) (.Constant (.int (n : Int)) j p2) p3) scope (keyItem X.K n) := by
  refine ⟨fun pins s σ H x u k I rx hr A L' f c' h1 tk kp hns => ?_⟩
  obtain ⟨t, ys, ex, hsq, hy⟩ := hr
  subst ex
  cases (show u = Value.ref t from rx)
  have hit : ∃ its : List Value, Vals ys its ∧ IsTup h1 t its.toArray ∧ ys.length ≤ sizeLine := by
    rcases hsq with z | z
    · obtain ⟨hz, its, r, it⟩ := (show ObjOk X.prog X.w H h1 t (.tup ys) from rd_keepL I kp z)
      exact ⟨its, r, it, hz⟩
    · obtain ⟨its, r, ⟨o, ho, hc, n', hd⟩, hz⟩ := I.tuple (.inr z)
      refine ⟨its, r, ⟨o, kp _ _ ho ?_, hc, n', hd⟩, hz⟩
      intro zz
      obtain ⟨mL, ⟨oL, _, _, eL, dL, _⟩, _⟩ := I.loc
      rw [← zz, ho] at eL
      cases eL
      rw [hd] at dL
      cases dL
  obtain ⟨its, r, it, hz⟩ := hit
  obtain ⟨w2, hw, rw2⟩ := r.get hy
  obtain ⟨t', rfl⟩ := (show ∃ t, w2 = Value.int k t from rw2)
  have hl := r.length
  have hlt : n < ys.length := (List.getElem?_eq_some_iff.mp hy).1
  have hn63 := line63
  refine Subscript_ (wpAny_Name (wpAny_loadName_local lp.kind lp.par hns (v := Value.ref t) ?_ (wpAny_Constant_int ?_)) n2)
  · show ([(par, Value.ref t)] : List (Str × Value)).reverse.lookup par = some (Value.ref t)
    simp [List.lookup]
  · exact subscriptTail_builtinR (x := Value.int k t') it.typeIs slot_tuple_getitem.lookup
      (getItem_tuple (j := n) (Q := fun r s' => r = Value.int k t' ∧ ∃ t1 tk', r = Value.int k t1 ∧ s' = { s with heap := h1, toks := tk' }) it (by omega) (by omega)
        (by rw [List.size_toArray, ← hl, seqIndex_of (by omega) (by omega)]; simp) (by simpa using hw) ⟨rfl, t', _, rfl, rfl⟩) rfl
end OwnR

set_option Elab.async false
set_option linter.all false
set_option maxRecDepth 100000
set_option maxHeartbeats 2000000
namespace OwnR
open PySem PySem.Spec PyProof.Rows L2
section
variable {X : Cx} {CX : CXT} {k : Nat} {g C : Addr} {sp : Sp} {E : XK}
/-! ### y in x, y not in x: x an instance of C, which has __contains__ -/
def rInO (C : Addr) (sp : Sp) (E : XK) (neg : Bool) : R2 := fun x y H Q => ∃ a dx fs, y = .ref a ∧ H a = some (.ins C dx fs) ∧ sp [.ref a, x] H (fun z H' => ∃ b, z = .bl b ∧ Q (.bl (b != neg)) H') E
theorem op_inO (hs : PySem.W.findIn X.K (.ref C) "__contains__" = some (some (.ref g))) (hf : PySem.W.isFn X.K (.ref g) = true) (F : FnR X.prog X.w X.K X.mg X.base CX k g sp) (hr : Room k X.A) (hx : Passes CX X E) : OpR X (compareOp .In) (rInO C sp E false) := by
  intro pins s σ H x y v u Q I rx ry h
  obtain ⟨a, dx, fs, rfl, ha, q⟩ := h
  cases (show u = Value.ref a from ry)
  obtain ⟨ox, od, J, hd⟩ := StX.insC_at I (.inr ⟨dx, fs, ha⟩)
  obtain ⟨m, hF⟩ := I.fr
  refine PySem.W.in_K hF I.ok.mod.kin J hs hf (thn (wpAny_call (run_fnR (us := [.ref a, v]) (vs := [.ref a, x]) F hr hx I (.cons rfl (.cons rx .nil)) q)) fun w' s' hq => ?_)
  obtain ⟨z, H', I', rz, b, ez, qz⟩ := hq
  subst ez
  cases (show w' = Value.bool b from rz)
  exact wpAny_truthy_bool ⟨.bl b, H', I', rfl, by simpa using qz⟩
theorem op_notInO (hs : PySem.W.findIn X.K (.ref C) "__contains__" = some (some (.ref g))) (hf : PySem.W.isFn X.K (.ref g) = true) (F : FnR X.prog X.w X.K X.mg X.base CX k g sp) (hr : Room k X.A) (hx : Passes CX X E) : OpR X (compareOp .NotIn) (rInO C sp E true) := by
  intro pins s σ H x y v u Q I rx ry h
  obtain ⟨a, dx, fs, rfl, ha, q⟩ := h
  cases (show u = Value.ref a from ry)
  obtain ⟨ox, od, J, hd⟩ := StX.insC_at I (.inr ⟨dx, fs, ha⟩)
  obtain ⟨m, hF⟩ := I.fr
  refine PySem.W.notIn_K hF I.ok.mod.kin J hs hf (thn (wpAny_call (run_fnR (us := [.ref a, v]) (vs := [.ref a, x]) F hr hx I (.cons rfl (.cons rx .nil)) q)) fun w' s' hq => ?_)
  obtain ⟨z, H', I', rz, b, ez, qz⟩ := hq
  subst ez
  cases (show w' = Value.bool b from rz)
  exact wpAny_truthy_bool ⟨.bl (!b), H', I', rfl, by simpa using qz⟩
/-! ### o[i]: o an instance of C, which has __getitem__ -/
def tSubO (C : Addr) (sp : Sp) (E : XK) (to ti : TE) : TE := fun σ H Q => to σ H fun x H1 => ti σ H1 fun y H2 => ∃ a dx fs, x = .ref a ∧ H2 a = some (.ins C dx fs) ∧ sp [.ref a, y] H2 Q E
theorem pe_subO {o i : Expr} {pos : Pos} {to ti : TE} (hs : PySem.W.findIn X.K (.ref C) "__getitem__" = some (some (.ref g))) (hf : PySem.W.isFn X.K (.ref g) = true) (hfi : PySem.W.fnIn X.K g = true) (F : FnR X.prog X.w X.K X.mg X.base CX k g sp) (hr : Room (k + 1) X.A) (hx : Passes CX X E)
    (ho : PE X o to) (hi : PE X i ti) (hsl : ∀ a v, subscripted i true (.ref a) v = runValue (.builtin "lifetime.subscript" ⟨[.ref a, v], []⟩) := by intros; with_unfolding_all rfl) : PE X (.Subscript o i pos) (tSubO C sp E to ti) := by
  refine ⟨fun pins s σ H Q I h => ?_⟩
  refine Subscript_ (thn (ho.run pins s σ H _ I h) fun u s1 ⟨x, H1, I1, rx, q1⟩ => thn (hi.run pins s1 σ H1 _ I1 q1) fun iv s2 ⟨y, H2, I2, ry, a, dx, fs, ex, ha, q⟩ => ?_)
  subst ex
  cases (show u = Value.ref a from rx)
  obtain ⟨ox, od, J, hd⟩ := StX.insC_at I2 (.inr ⟨dx, fs, ha⟩)
  obtain ⟨m, hF⟩ := I2.fr
  exact PySem.W.sub_K hF I2.ok.mod.kin J hs hfi hf (wpAny_call (SlX.run_at (us := [.ref a, iv]) (ws := [.ref a, y]) F hr.in1 I2.env0.in1 hx I2 (.cons rfl (.cons ry .nil)) q)) (hsl a iv)
/-! ### len(o) -/
def rLenO (C : Addr) (sp : Sp) (E : XK) : List V → Hp → VK → Prop := fun xs H Q => ∃ a dx fs, xs = [V.ref a] ∧ H a = some (.ins C dx fs) ∧ sp [.ref a] H (fun z H' => ∃ n : Nat, z = .int (n : Int) ∧ n ≤ sizeLine ∧ Q (.int (n : Int)) H') E
theorem call_lenO (hs : PySem.W.findIn X.K (.ref C) "__len__" = some (some (.ref g))) (hf : PySem.W.isFn X.K (.ref g) = true) (F : FnR X.prog X.w X.K X.mg X.base CX k g sp) (hr : Room (k + 1) X.A) (hx : Passes CX X E) : CallR X (.builtin "len") (rLenO C sp E) := by
  intro pins s σ H xs us Q I r h
  obtain ⟨a, dx, fs, rfl, ha, q⟩ := h
  obtain ⟨u, rfl, ru⟩ := r.one
  cases (show u = Value.ref a from ru)
  obtain ⟨ox, od, J, hd⟩ := StX.insC_at I (.inr ⟨dx, fs, ha⟩)
  obtain ⟨m, hF⟩ := I.fr
  refine PySem.W.len_K hF I.ok.mod.kin J hs hf (thn (wpAny_call (SlX.run_at (us := [.ref a]) (ws := [.ref a]) F hr.in1 I.env0.in1 hx I (.cons rfl .nil) q)) fun w' s' hq => ?_)
  obtain ⟨z, H', I', rz, n, ez, hn, qz⟩ := hq
  subst ez
  obtain ⟨t, e⟩ := (show ∃ t, w' = Value.int (n : Int) t from rz)
  cases e
  have := line63
  exact ⟨⟨by omega, by omega⟩, .int (n : Int), H', I'.tok _, ⟨_, rfl⟩, qz⟩
/-! ### a + b, both of C, which has __add__ -/
def rAddO (C : Addr) (sp : Sp) (E : XK) : R2 := fun x y H Q => ∃ a dx fs b dy gs, x = .ref a ∧ y = .ref b ∧ H a = some (.ins C dx fs) ∧ H b = some (.ins C dy gs) ∧ sp [.ref a, .ref b] H Q E
theorem op_addO (hc : PySem.W.selfFirst X.K C = true) (hs : PySem.W.findIn X.K (.ref C) (PySem.dunder (Operator.info .Add).2) = some (some (.ref g))) (hf : PySem.W.isFn X.K (.ref g) = true) (F : FnR X.prog X.w X.K X.mg X.base CX k g sp) (hr : Room k X.A) (hx : Passes CX X E) : OpR X (binaryOp .Add) (rAddO C sp E) := by
  intro pins s σ H x y v u Q I rx ry h
  obtain ⟨a, dx, fs, b, dy, gs, rfl, rfl, ha, hb, q⟩ := h
  cases (show v = Value.ref a from rx)
  cases (show u = Value.ref b from ry)
  obtain ⟨ox, od, J, hd⟩ := StX.insC_at I (.inr ⟨dx, fs, ha⟩)
  obtain ⟨oy, od', J', hd'⟩ := StX.insC_at I (.inr ⟨dy, gs, hb⟩)
  obtain ⟨m, hF⟩ := I.fr
  refine PySem.W.binop_K (op := .Add) hF I.ok.mod.kin J J'.type hc hs hf (thn (wpAny_call (run_fnR (us := [.ref a, .ref b]) (vs := [.ref a, .ref b]) F hr hx I (.cons rfl (.cons rfl .nil)) q)) fun w' s' hq => ?_)
  obtain ⟨z, H', I', rz, qz⟩ := hq
  exact SlX.cmpback rz ⟨z, H', I', rz, qz⟩
/-! ### x(*y), x a slot that holds the class C -/
def tMakeLS (K : PySem.W.Frag) (C : Addr) (sp : Sp) (E : XK) (tf te : TE) : TE := fun σ H Q => tf σ H fun z H0 => z = .ref C ∧ te σ H0 fun y H1 => ∃ a xs, y = V.ref a ∧ (SqT K H1 a xs ∨ SqL K H1 a xs) ∧ ∀ x dx, H1 x = none → H1 dx = none → dx ≠ x →
  sp (V.ref x :: xs) (upd (upd H1 dx (.own x)) x (.ins C dx [])) (fun v H2 => v = .non ∧ Q (.ref x) H2) E
theorem pe_makeLS {x : Str} {e : Expr} {p p2 pos : Pos} {tf te : TE} {f : Addr} (M : Mk X.K C f) (F : FnR X.prog X.w X.K X.mg X.base CX k f sp) (hr : Room (k + 1) X.A) (hx : Passes CX X E) (hf : PE X (.Name x p) tf) (he : PE X e te)
    (hst : starEach [.Starred e p2] X.env = [(true, eval e X.env)] := by rfl) : PE X (.Call (.Name x p) [.Starred e p2] [] pos) (tMakeLS X.K C sp E tf te) := by
  refine ⟨fun pins s σ H Q I h => ?_⟩
  refine wpAny_Call_Name_kw (thn (hf.run pins s σ H _ I h) fun u s0 ⟨z, H0, I0, rz, ez, q0⟩ => ?_)
  subst ez
  cases (show u = Value.ref C from rz)
  refine PySem.W.callWith_S (h₀ := X.base) I.ok.mod.kin M.kp (thn (he.run pins s0 σ H0 _ I0 q0) fun v s1 ⟨y, H1, I1, ry, a, xs, ey, hxs, q⟩ => ?_) hst
  subst ey
  cases (show v = Value.ref a from ry)
  exact StX.star_any I1 hxs fun us s2 I2 rv => ⟨I2.kIn, StX.run_makeR M F hr hx I2 rv q⟩
end
/-- x(*y), x a class of the module -/
theorem pe_makeGS {X : Cx} {CX : CXT} {k : Nat} {C : Addr} {sp : Sp} {E : XK} {x : Str} {e : Expr} {p p2 pos : Pos} {te : TE} {f : Addr} (M : Mk X.K C f) (F : FnR X.prog X.w X.K X.mg X.base CX k f sp) (hr : Room (k + 1) X.A) (hx : Passes CX X E) (hg : Gl X x) (hm : X.mg x = some (.ref C)) (he : PE X e te)
    (hdb : (x == ("__debug__" : Str)) = false := by decide) (hst : starEach [.Starred e p2] X.env = [(true, eval e X.env)] := by rfl) : PE X (.Call (.Name x p) [.Starred e p2] [] pos) (tMakeLS X.K C sp E (tC (.ref C)) te) :=
  pe_makeLS M F hr hx (pe_glob hg hm rfl hdb) he hst
/-! ### xs[i] op= e, xs a list -/
theorem pg_list {X : Cx} : PGet X (rIxL X.K) := by
  intro pins s σ H x y v u Q I rx ry h
  obtain ⟨p, xs, i, z, rfl, rfl, hq, he, q⟩ := h
  cases (show v = Value.ref p from rx)
  obtain ⟨t, rfl⟩ := (show ∃ t, u = Value.int i t from ry)
  obtain ⟨its, r, pl, hz⟩ := I.list hq
  obtain ⟨j, h1, h2, h3, h4, h5⟩ := atI_get he
  obtain ⟨w, ew, rw'⟩ := r.get h2
  have hl := r.length
  have hn := line63
  have fin : EP X pins σ Q w s := ⟨z, H, I, rw', q⟩
  by_cases h0 : 0 ≤ i
  · have hj : i.toNat = j := by
      rw [seqIndex_of h0 h5] at h1
      exact Option.some.inj h1
    exact wpAny_getItem_list pl.isList h0 (by omega) (by rw [hj]; simpa using ew) fin
  · have hj : (i + (its.toArray.size : Int)).toNat = j := by
      rw [seqIndex_neg (by omega) h4] at h1
      rw [List.size_toArray, ← hl]
      exact Option.some.inj h1
    exact wpAny_getItem_list_neg pl.isList (by omega) (by rw [List.size_toArray] <;> omega) (by omega) (by rw [hj]; simpa using ew) fin
end OwnR

set_option Elab.async false
set_option linter.all false
set_option maxRecDepth 100000
namespace Sl
open PySem L2
def top (i : Nat) : Stmt := PySem.Challenge.pw_slowleaders_k07_wide_enough.main.body.getD i (.Pass ⟨0, 0, 0, 0⟩)
abbrev sRoadError : Stmt := top 2
abbrev sInvalidRoad : Stmt := top 3
abbrev sInvalidRoadInit : Stmt := inClass sInvalidRoad 0
abbrev sInvalidCars : Stmt := top 4
abbrev sInvalidCarsInit : Stmt := inClass sInvalidCars 0
abbrev sInvalidNumber : Stmt := top 5
abbrev sUnknownCar : Stmt := top 6
abbrev sUnknownCarInit : Stmt := inClass sUnknownCar 0
abbrev sUnknownSection : Stmt := top 7
abbrev sUnknownSectionInit : Stmt := inClass sUnknownSection 0
abbrev sIsNumber : Stmt := top 13
abbrev sIsName : Stmt := top 14
abbrev sIsCar : Stmt := top 15
abbrev sCheckCars : Stmt := top 16
abbrev sInOrder : Stmt := top 18
abbrev sFollow : Stmt := top 19
abbrev sDriveAll : Stmt := top 20
abbrev sDrive : Stmt := top 21
abbrev sDInit : Stmt := inClass sDrive 0
abbrev sDCheckCar : Stmt := inClass sDrive 1
abbrev sDCheckPlace : Stmt := inClass sDrive 2
abbrev sDCheckSection : Stmt := inClass sDrive 3
abbrev sDGet : Stmt := inClass sDrive 4
abbrev sDCall : Stmt := inClass sDrive 5
abbrev sDHas : Stmt := inClass sDrive 6
abbrev sDLen : Stmt := inClass sDrive 7
abbrev sDOrderAt : Stmt := inClass sDrive 9
abbrev sDLeader : Stmt := inClass sDrive 10
abbrev sDRowsOf : Stmt := inClass sDrive 11
abbrev sDOvertakings : Stmt := inClass sDrive 12
abbrev sDLosses : Stmt := inClass sDrive 13
abbrev sFirstLoser : Stmt := top 24
abbrev sFewestWidened : Stmt := top 25
abbrev sHarmfulWidenings : Stmt := top 26
abbrev sIsSection : Stmt := top 33
abbrev sUnitsOf : Stmt := top 34
abbrev sRoad : Stmt := top 35
abbrev sRInit : Stmt := inClass sRoad 0
abbrev sROfUnits : Stmt := inClass sRoad 1
abbrev sRSections : Stmt := inClass sRoad 2
abbrev sRUnits : Stmt := inClass sRoad 3
abbrev sRWidened : Stmt := inClass sRoad 4
abbrev sRLen : Stmt := inClass sRoad 5
abbrev sRGet : Stmt := inClass sRoad 6
abbrev sRHas : Stmt := inClass sRoad 8
abbrev sRAdd : Stmt := inClass sRoad 9
abbrev sRMul : Stmt := inClass sRoad 10
abbrev sREq : Stmt := inClass sRoad 11
abbrev sDice : Stmt := top 37
abbrev sNext : Stmt := top 38
abbrev sLike : Stmt := top 39
abbrev sPick : Stmt := top 40
abbrev sTold : Stmt := top 41
abbrev sParts : Stmt := top 42
abbrev sMade : Stmt := top 43
abbrev sCars : Stmt := top 44
abbrev sSection : Stmt := top 45
abbrev sDriven : Stmt := top 46
abbrev sArrivals : Stmt := top 47
abbrev sWide : Stmt := top 48
abbrev sLost : Stmt := top 49
abbrev sLaw : Stmt := top 50
end Sl

set_option Elab.async false
set_option linter.all false
set_option maxRecDepth 100000
set_option maxHeartbeats 1000000
namespace Sl
open PySem PySem.Spec L2 OwnR
theorem yes_of {σ : L2.St} {H : Hp} {A S : Hp → Prop} (h : A H) : tYes σ H (fun b H3 => if b = true then A H3 else S H3) := by
  show (if true = true then A H else S H)
  rw [if_pos rfl]
  exact h
/-- the module's names that the program asks: built-ins that stand, its constants -/
structure Mg (mg : Str → Option Value) : Prop where
  isinstance : mg "isinstance" = none
  int : mg "int" = none
  bool : mg "bool" = none
  str : mg "str" = none
  tuple : mg "tuple" = none
  len : mg "len" = none
  all : mg "all" = none
  enumerate : mg "enumerate" = none
  sorted : mg "sorted" = none
  list : mg "list" = none
  range : mg "range" = none
  sum : mg "sum" = none
  mostCars : ∃ t, mg "MOST_CARS" = some (.int 10 t)
  longestName : ∃ t, mg "LONGEST_NAME" = some (.int 8 t)
  latestStart : ∃ t, mg "LATEST_START" = some (.int 1000000 t)
  slowestPace : ∃ t, mg "SLOWEST_PACE" = some (.int 60 t)
  mostSections : ∃ t, mg "MOST_SECTIONS" = some (.int 12 t)
  longestSection : ∃ t, mg "LONGEST_SECTION" = some (.int 99 t)
theorem boot_isinstance : bootBuiltins "isinstance" = some (.builtin "isinstance") := by decide +kernel
theorem boot_tInt : bootBuiltins "int" = some (.type "int") := by decide +kernel
theorem boot_tBool : bootBuiltins "bool" = some (.type "bool") := by decide +kernel
theorem boot_tStr : bootBuiltins "str" = some (.type "str") := by decide +kernel
theorem boot_tTuple : bootBuiltins "tuple" = some (.type "tuple") := by decide +kernel
theorem boot_all : bootBuiltins "all" = some (.builtin "all") := by decide +kernel
section
variable {P : Program} {w : World} {K : PySem.W.Frag} {mg : Str → Option Value} {base : Heap}
/-! ### is_number of an int -/
def spIsNumber : Sp := fun vs H Q _ => ∃ i lo hi : Int, vs = [.int i, .int lo, .int hi] ∧ Q (.bl (decide (lo ≤ i) && decide (i ≤ hi))) H
theorem scIsNumber : FnScope ["value", "least", "most"] ["value", "least", "most"] (defScope sIsNumber) := ⟨rfl, rfl, rfl, by decide +kernel, rfl, by decide +kernel, by decide +kernel⟩
theorem ok_isNumber {f : Addr} {fd : FuncData} (F : Fun K "is_number" "is_number" sIsNumber f fd) (M : Mg mg) : FnOk P w K mg base CX0 1 f fd ["value", "least", "most"] spIsNumber := by
  refine F.ok scIsNumber (fun vs H Q E h => ?_) (fun cdv A outer s H vs Q E hr h => ?_)
  · obtain ⟨i, lo, hi, rfl, _⟩ := h
    rfl
  · obtain ⟨i, lo, hi, rfl, k⟩ := h
    refine ⟨_, pss_one (ps_ret (pe_and (pe_callB call_isi (by rfl) M.isinstance boot_isinstance (pa_cons (pv 0) (pa_cons (pe_bltn (v := .ty "int") (by rfl) M.int boot_tInt rfl) pa_nil)))
      (pe_and (pe_not (pe_callB call_isi (by rfl) M.isinstance boot_isinstance (pa_cons (pv 0) (pa_cons (pe_bltn (v := .ty "bool") (by rfl) M.bool boot_tBool rfl) pa_nil))))
        (pe_one (pe_chain op_le op_le (pv 1) (pv 0) (pv 2)))))), ?_⟩
    refine ⟨_, rfl, _, _, _, _, true, rfl, .ty _, .base (.int i), kit_ty (by decide +kernel), true, rfl, iteT ?_⟩
    refine ⟨_, rfl, _, _, _, _, false, rfl, .ty _, .base (.int i), kit_ty (by decide +kernel), false, rfl, true, rfl, iteT ?_⟩
    refine ⟨_, rfl, _, rfl, lo, i, rfl, rfl, _, rfl, ?_⟩
    by_cases h1 : lo ≤ i
    · rw [decide_eq_true h1] at k ⊢
      exact iteT ⟨_, rfl, i, hi, rfl, rfl, by simpa using k⟩
    · rw [decide_eq_false h1] at k ⊢
      exact iteF (by simpa using k)
theorem lt_one (a b : Nat) : decide ([a] < [b]) = decide (a < b) := by
  rw [decide_eq_decide]
  simp [List.cons_lt_cons_iff]
/-! ### is_name of a text that is a name -/
def NameOk (z : Str) : Prop := 1 ≤ z.length ∧ z.length ≤ 8 ∧ ∀ c ∈ z.cps.toList, 97 ≤ c ∧ c ≤ 122
def spIsName : Sp := fun vs H Q _ => ∃ z : Str, vs = [.str z] ∧ NameOk z ∧ ∀ H', Same H H' → Q (.bl true) H'
theorem scIsName : FnScope ["value", "letter"] ["value"] (defScope sIsName) := ⟨rfl, rfl, rfl, by decide +kernel, rfl, by decide +kernel, by decide +kernel⟩
theorem ok_isName {f : Addr} {fd : FuncData} (F : Fun K "is_name" "is_name" sIsName f fd) (M : Mg mg) : FnOk P w K mg base CX0 1 f fd ["value"] spIsName := by
  obtain ⟨t8, M8⟩ := M.longestName
  refine F.ok scIsName (fun vs H Q E h => ?_) (fun cdv A outer s H vs Q E hr h => ?_)
  · obtain ⟨z, rfl, _⟩ := h
    rfl
  · obtain ⟨z, rfl, ⟨z1, z8, zc⟩, k⟩ := h
    have nd := scIsName.nd
    refine ⟨_, pss_cons (ps_if (PW.pt (pw_or (pt_not (pt_val (pe_callB call_isi (by rfl) M.isinstance boot_isinstance (pa_cons (pv 0) (pa_cons (pe_bltn (v := .ty "str") (by rfl) M.str boot_tStr rfl) pa_nil)))))
        (pw_or1 (pt_not (pt_chain op_le op_le pe_int (pe_callB call_len_str (by rfl) M.len boot_len (pa_cons (pv 0) pa_nil)) (pe_glob (v := .int 8) (by rfl) M8 ⟨_, rfl⟩)))))) (pss_one (ps_ret pe_bl)) pss_nil)
      (pss_one (ps_ret (pe_callB (cr_all rfl) (by rfl) M.all boot_all (pa_cons (pe_lc (own := [("letter", 1)]) (g := gName 1) (tt := tYes) (by rfl) nd (pi_str (pv 0)) (blkOk_by (N := ["value", "letter"]) (sc := defScope sIsName) (by decide +kernel))
        (fun _ _ _ _ _ => pg_name (i := 1) nd rfl (Or.inl rfl)) (fun _ _ _ _ _ => pts_nil) (fun _ _ _ _ _ => pe_chain op_le_str op_le_str pe_str (pv 1) pe_str)) pa_nil)))), ?_⟩
    have hz : z.length ≤ sizeLine := Nat.le_trans z8 (by decide)
    have e1 : decide ((1 : Int) ≤ (z.length : Nat)) = true := decide_eq_true (by omega)
    have e8 : decide (((z.length : Nat) : Int) ≤ 8) = true := decide_eq_true (by omega)
    refine ⟨_, rfl, _, _, _, _, true, rfl, .ty _, .base (.str z), kit_ty (by decide +kernel), true, rfl, iteF ?_⟩
    refine ⟨_, rfl, z, rfl, hz, 1, (z.length : Nat), rfl, rfl, _, rfl, ?_⟩
    rw [e1]
    refine iteT ⟨(z.length : Nat), 8, rfl, rfl, true, congrArg V.bl e8, iteF ?_⟩
    refine ⟨_, rfl, z, rfl, fun D hD => lc_it walk_str (fun i H1 => (∀ b o, H b = some o → H1 b = some o) ∧ H1 D = some (.lst (List.replicate i (.bl true)))) ⟨fun b o e => by rw [upd_ne (ne_of_none e hD)]; exact e, upd_same⟩ (fun _ _ _ _ => True.intro) ?_ ?_⟩
    · rintro i x H1 H2 hi ⟨hk, hl⟩ ⟨e, c, hc, ex⟩
      subst e ex
      have hm : c ∈ z.cps.toList := by
        rw [Array.mem_toList_iff]
        exact Array.mem_of_getElem? hc
      have g1 : (!decide ((⟨#[c]⟩ : Str).cps.toList < ("a" : Str).cps.toList)) = true := by
        have e2 : ("a" : Str).cps.toList = [97] := by decide +kernel
        rw [e2]
        have := (zc c hm).1
        show (!decide (([c] : List Nat) < [97])) = true
        rw [lt_one, decide_eq_false (by omega)]
        rfl
      have g2 : (!decide (("z" : Str).cps.toList < (⟨#[c]⟩ : Str).cps.toList)) = true := by
        have e2 : ("z" : Str).cps.toList = [122] := by decide +kernel
        rw [e2]
        have := (zc c hm).2
        show (!decide (([122] : List Nat) < [c])) = true
        rw [lt_one, decide_eq_false (by omega)]
        rfl
      refine ⟨rfl, ?_⟩
      refine yes_of ?_
      refine ⟨_, rfl, _, _, rfl, rfl, true, congrArg V.bl g1, ?_⟩
      refine iteT ?_
      refine ⟨_, _, rfl, rfl, ?_⟩
      rw [g2]
      refine ⟨_, hl, ?_, fun b o e => by rw [upd_ne (ne_of_none e hD)]; exact hk b o e, ?_⟩
      · rw [List.length_replicate]
        have : z.cps.size ≤ 8 := z8
        exact Nat.lt_of_lt_of_le (Nat.lt_of_lt_of_le hi this) (by decide)
      · rw [upd_same, ← List.replicate_succ']
    · rintro H1 ⟨hk, hl⟩
      refine ⟨D, List.replicate z.cps.size true, rfl, ?_, ?_⟩
      · rw [List.map_replicate]
        exact SqL.of hl
      · have e3 : (List.replicate z.cps.size true).all id = true := by simp
        rw [e3]
        exact k H1 hk
end
end Sl

set_option Elab.async false
set_option linter.all false
set_option maxRecDepth 100000
set_option maxHeartbeats 1000000
namespace Sl
open PySem PySem.Spec L2 OwnR
/-- a def of the module, as callers want it -/
structure Fb (K : PySem.W.Frag) (mg : Str → Option Value) (x : Str) (st : Stmt) (ps : List Str) (f : Addr) (fd : FuncData) : Prop where
  fn : Fun K x x st f fd
  at_ : mg x = some (.ref f)
  bd : Binds K fd ps []
section
variable {P : Program} {w : World} {K : PySem.W.Frag} {mg : Str → Option Value} {base : Heap}
/-! ### is_car of a tuple that is a car -/
structure Car where
  name : Str
  start : Int
  pace : Int
def Car.vs (c : Car) : List V := [.str c.name, .int c.start, .int c.pace]
structure Car.Ok (c : Car) : Prop where
  nm : NameOk c.name
  s0 : 0 ≤ c.start
  s1 : c.start ≤ 1000000
  p0 : 1 ≤ c.pace
  p1 : c.pace ≤ 60
def spIsCar : Sp := fun vs H Q _ => ∃ (t : Addr) (c : Car), vs = [.ref t] ∧ H t = some (.tup c.vs) ∧ c.Ok ∧ ∀ H', Same H H' → Q (.bl true) H'
theorem scIsCar : FnScope ["value", "name", "start", "pace"] ["value"] (defScope sIsCar) := ⟨rfl, rfl, rfl, by decide +kernel, rfl, by decide +kernel, by decide +kernel⟩
theorem ok_isCar {f fN fB : Addr} {fd dN dB : FuncData} (F : Fb K mg "is_car" sIsCar ["value"] f fd) (M : Mg mg) (BN : Fb K mg "is_name" sIsName ["value"] fN dN) (BB : Fb K mg "is_number" sIsNumber ["value", "least", "most"] fB dB)
    (GN : FnOk P w K mg base CX0 1 fN dN ["value"] spIsName) (GB : FnOk P w K mg base CX0 1 fB dB ["value", "least", "most"] spIsNumber) : FnOk P w K mg base CX0 2 f fd ["value"] spIsCar := by
  obtain ⟨t1, M1⟩ := M.latestStart
  obtain ⟨t2, M2⟩ := M.slowestPace
  refine F.fn.ok scIsCar (fun vs H Q E h => ?_) (fun cdv A outer s H vs Q E hr h => ?_)
  · obtain ⟨t, c, rfl, _⟩ := h
    rfl
  · obtain ⟨t, c, rfl, ht, C, k⟩ := h
    have nd := scIsCar.nd
    refine ⟨_, pss_cons (ps_if (PW.pt (pw_or (pt_not (pt_val (pe_callB call_isi (by rfl) M.isinstance boot_isinstance (pa_cons (pv 0) (pa_cons (pe_bltn (v := .ty "tuple") (by rfl) M.tuple boot_tTuple rfl) pa_nil)))))
        (pw_or1 (pt_cmpR op_ne (pe_callB call_len_seq (by rfl) M.len boot_len (pa_cons (pv 0) pa_nil)) pe_int (nomark _))))) (pss_one (ps_ret pe_bl)) pss_nil)
      (pss_cons (ps_asg (pv 0) (pg_tup (by rfl) (pgs_cons (pg_name (i := 1) nd rfl (.inl rfl)) (pgs_cons (pg_name (i := 2) nd rfl (.inl rfl)) (pgs_cons (pg_name (i := 3) nd rfl (.inl rfl)) pgs_nil)))))
      (pss_one (ps_ret (pe_and (pe_call GN hr (by rfl) BN.at_ BN.fn.kp BN.bd .nil pass0 (pa_cons (pv 1) pa_nil))
        (pe_and (pe_call GB hr (by rfl) BB.at_ BB.fn.kp BB.bd .nil pass0 (pa_cons (pv 2) (pa_cons pe_int (pa_cons (pe_glob (v := .int 1000000) (by rfl) M1 ⟨_, rfl⟩) pa_nil))))
          (pe_one (pe_call GB hr (by rfl) BB.at_ BB.fn.kp BB.bd .nil pass0 (pa_cons (pv 3) (pa_cons pe_int (pa_cons (pe_glob (v := .int 60) (by rfl) M2 ⟨_, rfl⟩) pa_nil)))))))))), ?_⟩
    refine ⟨_, rfl, _, _, _, _, true, rfl, .ty _, .base (.tup ht), kit_ty (by decide +kernel), true, rfl, iteF ?_⟩
    refine ⟨_, rfl, t, _, rfl, .inr (SqT.of ht), rfl, false, rfl, iteF ?_⟩
    refine ⟨_, rfl, t, c.vs, rfl, SqT.of ht, rfl, _, _, rfl, _, _, rfl, _, _, rfl, rfl, ?_⟩
    refine ⟨_, rfl, c.name, rfl, C.nm, fun H1 s1 => ⟨true, rfl, iteT ?_⟩⟩
    refine ⟨_, rfl, c.start, 0, 1000000, rfl, true, ?_, iteT ?_⟩
    · rw [decide_eq_true C.s0, decide_eq_true C.s1]
      rfl
    refine ⟨_, rfl, c.pace, 1, 60, rfl, ?_⟩
    rw [decide_eq_true C.p0, decide_eq_true C.p1]
    exact k H1 s1
/-! ### check_cars of a tuple of cars -/
def CarsAt (H : Hp) (a : Addr) (cars : List Car) : Prop := ∃ ts : List Addr, H a = some (.tup (ts.map V.ref)) ∧ ts.length = cars.length ∧ ∀ (i : Nat) (t : Addr) (c : Car), ts[i]? = some t → cars[i]? = some c → H t = some (.tup c.vs)
structure CarsOk (cars : List Car) : Prop where
  all : ∀ c ∈ cars, c.Ok
  nd : (cars.map (·.name)).Nodup
  few : cars.length ≤ 10
theorem CarsAt.same {H H' : Hp} {a : Addr} {cars : List Car} (h : CarsAt H a cars) (e : Same H H') : CarsAt H' a cars := by
  obtain ⟨ts, h1, h2, h3⟩ := h
  exact ⟨ts, e _ _ h1, h2, fun i t c e1 e2 => e _ _ (h3 i t c e1 e2)⟩
end
end Sl

set_option Elab.async false
set_option linter.all false
set_option maxRecDepth 100000
set_option maxHeartbeats 2000000
namespace OwnR
open PySem PySem.Spec PyProof.Rows L2
/-! ### enumerate(t), t a tuple -/
abbrev enumObj (n : Nat) : Obj := { cls := .type "enumerate", data := .fields #[.none, .bool false, .ref n, rawInt 0, .none, .none] }
theorem enum_make {v : Value} {o : Obj} {G : Heap → Prop} (B : Begins v o G) : Meets (Builtin.«enumerate.__new__» ⟨[.type "enumerate", v], []⟩) (fun _ R s => G s.heap ∧ R (.ok (.ret (.ref (s.heap.push o).objs.size))) { s with heap := (s.heap.push o).push (enumObj s.heap.objs.size) }) := by
  refine .of_wp fun prog w A R s hs => ?_
  obtain ⟨hp, g, d, tk, os⟩ := s
  obtain ⟨hG, hR⟩ := hs
  have isE := sub_enumerate
  have it1 : ∀ {A' : Around} {E' Q' : Value → Shared → Prop}, Q' (.ref hp.objs.size) ⟨hp.push o, g, d, tk, os⟩ → wpAny (model prog w) A' (pyIter v) (fun a b => Q' a b) (fun a b => E' a b) ⟨hp, g, d, tk, os⟩ := fun q => B.iter prog w _ _ ⟨hp, g, d, tk, os⟩ _ hG q
  wp_walk using it1
  refine wpAny_stack_any fun st => wpAny_pure ?_
  split
  · rename_i c _ _ _ _ _
    cases (c == Value.type "enumerate") <;> (wp_walk using it1; exact ⟨_, rfl, hR⟩)
  · wp_walk using it1
    exact ⟨_, rfl, hR⟩
section
variable {prog : Program} {w : World} {A : Around} {E : Value → Shared → Prop} {s : Shared}
theorem enum_tuple {t : Addr} {items : Array Value} {Q : Value → Shared → Prop} (ht : s.heap.IsTuple t items)
    (h : ∀ h', IsEnum h' (s.heap.objs.size + 1) s.heap.objs.size 0 .none → h'.IsTupleIter s.heap.objs.size t 0 → (∀ b o, s.heap.get? b = some o → h'.get? b = some o) → Q (.ref (s.heap.objs.size + 1)) { s with heap := h' }) :
    wpAny (model prog w) A (call (.type "enumerate") [.ref t]) Q E s := by
  have sz : ∀ o : Obj, (s.heap.push o).objs.size = s.heap.objs.size + 1 := fun o => Heap.size_push ..
  refine callType_new F.called_enumerate (by decide) (F.typeCall_enumerate_1 _) (F.newCall_enumerate_1 _) (fun _ => F.args_object_init_2 _ _) F.entry_enumerate_new (enum_make (begins_tuple t items)) ⟨ht, ?_⟩
  have he : ((s.heap.push { cls := .type "tuple_iterator", data := .fields #[.ref t, .int 0 0] }).push (enumObj s.heap.objs.size)).get? (s.heap.objs.size + 1) = some (enumObj s.heap.objs.size) := by
    have q := Heap.get?_push_size (s.heap.push { cls := .type "tuple_iterator", data := .fields #[.ref t, .int 0 0] }) (o := enumObj s.heap.objs.size) rfl
    rw [sz] at q
    exact q
  show _ ∧ _
  rw [sz]
  exact ⟨⟨_, he, rfl⟩, h _ he ⟨_, Heap.get?_push_of_some _ (Heap.get?_push_size _ rfl), rfl, rfl⟩ fun b o x => Heap.get?_push_of_some _ (Heap.get?_push_of_some _ x)⟩
end
/-- the tuple at a as it stands at each turn, each item in a new pair -/
def IteT (K : PySem.W.Frag) (a : Addr) (N : Nat) : It :=
  ⟨fun i H => ∃ (xs : List V) (x : V), SqT K H a xs ∧ xs[i]? = some x ∧ xs.length = N,
   fun i H v H' => ∃ T x, v = .ref T ∧ H T = none ∧ H' = upd H T (.tup [.int (i : Nat), x]) ∧ ∀ xs, SqT K H a xs → xs[i]? = some x,
   fun i H => ∃ xs : List V, SqT K H a xs ∧ xs.length ≤ i ∧ xs.length = N⟩
theorem tup_ne {h : Heap} {a it : Addr} {items : Array Value} {i : Nat} (p : h.IsTuple a items) (q : h.IsTupleIter it a i) : a ≠ it := by
  intro e
  obtain ⟨o, ho, hc, _⟩ := p
  obtain ⟨o', ho', hc', _⟩ := q
  rw [e, ho'] at ho
  cases ho
  rw [hc'] at hc
  injection hc with z
  exact absurd z (by decide)
theorem turn_enumT {P : Program} {w : World} {K : PySem.W.Frag} {elts : List Expr} {kk : Nat} {tpos : Pos} (a e it : Addr) (N : Nat) (nea : e ≠ a) :
    Turn P w K (.Tuple elts kk tpos) (IteT K a N) [e, it] e (fun i h => (∃ old, IsEnum h e it ((i : Nat) : Int) old) ∧ h.IsTupleIter it a i ∧ e ≠ it ∧ i ≤ N) where
  mem := List.mem_cons_self
  obj := fun i h st b hb => by
    obtain ⟨⟨old, he⟩, ⟨o, ho, hc, hd⟩, _⟩ := st
    rcases List.mem_cons.mp hb with z | z
    · exact ⟨_, by rw [z]; exact he, fun v q => by cases q⟩
    · exact ⟨o, by rw [List.mem_singleton.mp z]; exact ho, fun v q => by rw [hd] at q; cases q⟩
  keep := fun i h h' st k => by
    obtain ⟨⟨old, he⟩, ⟨o, ho, r⟩, hne, le⟩ := st
    exact ⟨⟨old, k e (by simp) _ he⟩, ⟨o, k it (by simp) o ho, r⟩, hne, le⟩
  item := by
    intro X hP hw hK hc i pins s σ H E I hf st hg
    subst hP hw hK
    obtain ⟨⟨old, he⟩, hit, hne, le⟩ := st
    obtain ⟨xs, x, hq, hx, eN⟩ := hg
    obtain ⟨its, rv, p, hz⟩ := I.tuple hq
    obtain ⟨u, hu, ru⟩ := rv.get hx
    have lo : i < its.toArray.size := by
      rw [List.size_toArray]
      exact (List.getElem?_eq_some_iff.mp hu).1
    have hel : e < s.heap.objs.size := Heap.lt_size he
    have hil : it < s.heap.objs.size := by
      obtain ⟨_, q, _⟩ := hit
      exact Heap.lt_size q
    have hd : X.A.in1.handled = none := I.ok.hd hc
    have D := Draws.tuple (prog := X.prog) (w := X.w) hd it a (tup_ne p hit) its.toArray
    refine wpAny_pyNext_enum_itemC D he ⟨hit, p⟩ lo hne (by simp [hne, nea]) fun y h' tk hy ho st2 hT hsz hk => ⟨_, rfl, wpAny_letOwnedTupleGo_enum (s := { s with heap := h', toks := tk + 1 }) ho fun h2 he2 sb => ?_⟩
    have ey : y = u := by
      have hy : its.toArray[i]? = some y := hy
      have : its[i]? = some y := by simpa using hy
      rw [hu] at this
      exact (Option.some.inj this).symm
    subst ey
    have hT2 : h2.get? s.heap.objs.size = some { cls := .type "tuple", data := .seq #[.int i tk, y] } := (sb.2 _ (Nat.ne_of_gt hel)).trans hT
    have new : ObjOk X.prog X.w (upd H s.heap.objs.size (.tup [.int (i : Nat), x])) h2 s.heap.objs.size (.tup [.int (i : Nat), x]) :=
      ⟨by show 2 ≤ sizeLine; decide, [.int i tk, y], .cons ⟨_, rfl⟩ (.cons ru .nil), ⟨_, hT2, rfl, _, rfl⟩⟩
    have J : Inv X pins σ (upd H s.heap.objs.size (.tup [.int (i : Nat), x])) { s with heap := h2, toks := tk + 1 } :=
      I.turnedNew (ch := [e, it]) (fun b ob hb q => (sb.2 b (fun z => hb (by simp [z]))).trans (hk b ob (fun z => hb (by simp [z])) (fun z => hb (by simp [z])) q)) hf (Nat.le_refl _) new
    have hi2 : h2.IsTupleIter it a (i + 1) := by
      obtain ⟨⟨o, h1, h3⟩, _⟩ := st2
      exact ⟨o, (sb.2 it (Ne.symm hne)).trans h1, h3⟩
    refine ⟨.ref s.heap.objs.size, _, J, rfl, ⟨_, x, rfl, I.hok.fresh (Nat.le_refl _), rfl, fun ys hy => by rw [I.tuple_inj hy hq]; exact hx⟩, ⟨⟨y, ?_⟩, hi2, hne, by have := (List.getElem?_eq_some_iff.mp hx).1; omega⟩, fun b hb => ?_⟩
    · rw [show ((i + 1 : Nat) : Int) = (i : Int) + 1 by omega]
      exact he2
    · have hb' : b < s.heap.objs.size := by
        rcases List.mem_cons.mp hb with z | z
        · rw [z]; exact hel
        · rw [List.mem_singleton.mp z]; exact hil
      rw [upd_ne (Nat.ne_of_lt hb')]
      exact (hf b hb).1
  done := by
    intro X hP hw hK hc i pins s σ H E I hf st hg
    subst hP hw hK
    obtain ⟨⟨old, he⟩, hit, hne, le⟩ := st
    obtain ⟨xs, hq, hx, eN⟩ := hg
    obtain ⟨its, rv, p, hz⟩ := I.tuple hq
    obtain ⟨f0, f1, f2, f3, f4, f5⟩ := hf it (by simp)
    have hl := rv.length
    have hd : X.A.in1.handled = none := I.ok.hd hc
    have D := Draws.tuple (prog := X.prog) (w := X.w) hd it a (tup_ne p hit) its.toArray
    have ei : i = its.toArray.size := by
      rw [List.size_toArray]
      omega
    rw [ei] at hit he
    exact wpAny_pyNext_enum_endD D he ⟨hit, p⟩ fun h' eb => ⟨rfl, I.turned (t' := s.toks) (fun b o hb q => eb b o hb q) f0 f1 f3 f4 f5⟩
  self := fun A i s Q E st h => let ⟨⟨_, he⟩, _⟩ := st; wpAny_pyIter_enum he h
def iEnumT (K : PySem.W.Frag) (ta : TA) : TI := fun σ H R => ta σ H fun vs H1 => ∃ a xs, vs = [.ref a] ∧ SqT K H1 a xs ∧ R (IteT K a xs.length) H1
theorem pi_enumT {X : Cx} {e : Expr} {ta : TA} {p pos tpos : Pos} {elts : List Expr} {kk : Nat} (hg : Gl X "enumerate") (hm : X.mg "enumerate" = none) (ha : PA X [e] ta) (hs : starEach [e] X.env = [(false, eval e X.env)] := by rfl) :
    PI X (.Tuple elts kk tpos) (.Call (.Name "enumerate" p) [e] [] pos) (iEnumT X.K ta) := by
  refine ⟨fun pins s σ H R I h => ?_⟩
  refine Call_ (ld_blt I hg hm boot_enumerate (PyProof.Rows.callWith_type1 (thn (ha.run pos pins s σ H _ I h) fun us s1 ⟨vs, H1, I1, r1, a, xs, ex, hq, q⟩ => ?_) hs rfl))
  subst ex
  obtain ⟨u, rfl, ru⟩ := r1.one
  cases (show u = Value.ref a from ru)
  obtain ⟨its, rv, p', hz⟩ := I1.tuple hq
  refine enum_tuple (items := its.toArray) p' fun h' he hit hk => wpAny_pyIter_enum he ?_
  have I2 : Inv X pins σ H1 { s1 with heap := h' } := I1.kept (t' := s1.toks) hk
  have la : a < s1.heap.objs.size := by
    obtain ⟨o, ho, _⟩ := p'
    exact Heap.lt_size ho
  refine ⟨s1.heap.objs.size + 1, [s1.heap.objs.size + 1, s1.heap.objs.size], _, _, H1, rfl, I2, turn_enumT a (s1.heap.objs.size + 1) s1.heap.objs.size xs.length (Nat.ne_of_gt (Nat.lt_succ_of_lt la)), ⟨⟨.none, he⟩, hit, Nat.succ_ne_self _, Nat.zero_le _⟩, fun b hb => ?_, q⟩
  have hle : s1.heap.objs.size ≤ b := by
    rcases List.mem_cons.mp hb with z | z
    · rw [z]
      exact Nat.le_succ _
    · rw [List.mem_singleton.mp z]
      exact Nat.le_refl _
  exact I1.fpOk hle (I1.hok.fresh hle)
theorem walk_enumT {K : PySem.W.Frag} {a : Addr} {xs : List V} : Walk (IteT K a xs.length) xs.length (fun H => SqT K H a xs) (YPair (fun i => some (.int (i : Nat))) fun i => xs[i]?) :=
  ⟨fun i _ hi q => ⟨xs, xs[i], q, by simp [hi], rfl⟩, fun _ q => ⟨xs, q, Nat.le_refl _, rfl⟩, fun i H x H' hi q y => by
    obtain ⟨T, z, e1, e2, e3, e4⟩ := y
    exact ⟨T, .int (i : Nat), z, e1, e2, e3, rfl, e4 xs q⟩⟩
end OwnR

set_option Elab.async false
set_option linter.all false
set_option maxRecDepth 100000
set_option maxHeartbeats 1000000
namespace Sl
open PySem PySem.Spec L2 OwnR
theorem eqV_str (a b : Str) : eqV (.str a) (.str b) = decide (a = b) := by
  show (a == b) = decide (a = b)
  by_cases h : a = b
  · rw [h]; simp
  · rw [decide_eq_false h]; simpa using h
theorem inV_str (x : Str) (l : List Str) : inV (.str x) (l.map V.str) = decide (x ∈ l) := by
  unfold inV
  induction l with
  | nil => simp
  | cons y r ih =>
    rw [List.map_cons, List.any_cons, ih, eqV_str]
    by_cases h : y = x
    · subst h; simp
    · have h2 : ¬ x = y := fun z => h z.symm
      simp [h, h2]
theorem tk1 {α : Type} {l : List α} {i : Nat} {x : α} (h : l[i]? = some x) : l.take (i + 1) = l.take i ++ [x] := by
  rw [List.take_add_one, h]
  rfl
theorem flat_strs (l : List Str) : (l.map V.str).all flatV = true := by
  induction l with
  | nil => rfl
  | cons y r ih => rw [List.map_cons, List.all_cons, ih]; rfl
section
variable {P : Program} {w : World} {K : PySem.W.Frag} {mg : Str → Option Value} {base : Heap}
def spCheckCars : Sp := fun vs H Q _ => ∃ (a : Addr) (cars : List Car), vs = [.ref a] ∧ CarsAt H a cars ∧ CarsOk cars ∧ ∀ H', Same H H' → Q .non H'
theorem scCheckCars : FnScope ["cars", "names", "index", "car"] ["cars"] (defScope sCheckCars) := ⟨rfl, rfl, rfl, by decide +kernel, rfl, by decide +kernel, by decide +kernel⟩
theorem ok_checkCars {f fC : Addr} {fd dC : FuncData} (F : Fb K mg "check_cars" sCheckCars ["cars"] f fd) (M : Mg mg) (BC : Fb K mg "is_car" sIsCar ["value"] fC dC)
    (GC : FnOk P w K mg base CX0 2 fC dC ["value"] spIsCar) : FnOk P w K mg base CX0 3 f fd ["cars"] spCheckCars := by
  obtain ⟨t1, M1⟩ := M.mostCars
  refine F.fn.ok scCheckCars (fun vs H Q E h => ?_) (fun cdv A outer s H vs Q E hr h => ?_)
  · obtain ⟨t, c, rfl, _⟩ := h
    rfl
  · obtain ⟨a, cars, rfl, ⟨ts, ha, hlen, hcar⟩, C, k⟩ := h
    have nd := scCheckCars.nd
    refine ⟨_, pss_cons (ps_if (pt_not (pt_val (pe_callB call_isi (by rfl) M.isinstance boot_isinstance (pa_cons (pv 0) (pa_cons (pe_bltn (v := .ty "tuple") (by rfl) M.tuple boot_tTuple rfl) pa_nil))))) (pss_one ps_never) pss_nil)
      (pss_cons (ps_set (i := 1) nd rfl (.inl rfl) (pe_lst pa_nil))
      (pss_one (ps_for PassesOwn.never rfl (pi_enumT (by rfl) M.enumerate (pa_cons (pv 0) pa_nil)) (pg_tup rfl (pgs_cons (pg_name (i := 2) nd rfl (.inl rfl)) (pgs_cons (pg_name (i := 3) nd rfl (.inl rfl)) pgs_nil)))
        (pss_cons (ps_if (PW.pt (pw_or (pt_cmpR op_eq (pv 2) (pe_glob (v := .int 10) (by rfl) M1 ⟨_, rfl⟩) (nomark _)) (pw_or (pt_not (pt_val (pe_call GC hr (by rfl) BC.at_ BC.fn.kp BC.bd .nil pass0 (pa_cons (pv 3) pa_nil))))
            (pw_or1 (pt_cmpR op_in_seq (pe_ix ix_tup (pv 3) pe_int (fun _ _ => rfl)) (pv 1) (by rfl)))))) (pss_one ps_never) pss_nil)
          (pss_one (ps_expr (pe_bm PySem.F.plainAttrs_list PySem.F.slot_list_append PySem.F.type_list_append mt_append (pv 1) (pa_cons (pe_ix ix_tup (pv 3) pe_int (fun _ _ => rfl)) pa_nil)))))))), ?_⟩
    refine ⟨_, rfl, _, _, _, _, true, rfl, .ty _, .base (.tup ha), kit_ty (by decide +kernel), true, rfl, iteF ?_⟩
    refine ⟨Nat.zero_le _, fun l hl => ?_⟩
    have hts : (ts.map V.ref).length = cars.length := by rw [List.length_map, hlen]
    refine ⟨_, rfl, a, ts.map V.ref, rfl, SqT.of (by rw [upd_ne (ne_of_none ha hl)]; exact ha), for_it walk_enumT
      (fun i σ H1 => ∃ v2 v3, σ = [some (.ref a), some (.ref l), v2, v3] ∧ Same H H1 ∧ H1 l = some (.lst (((cars.take i).map (·.name)).map V.str)))
      ⟨none, none, rfl, fun b o e => by rw [upd_ne (ne_of_none e hl)]; exact e, upd_same⟩ (fun i σ H1 _ ⟨_, _, _, s1, _⟩ => SqT.of (s1 _ _ ha)) ?_ ?_⟩
    · rintro i x σ H1 H2 hi ⟨v2, v3, rfl, s1, hL⟩ ⟨T, x1, x2, rfl, hT, rfl, e1, e2⟩
      cases e1
      have hic : i < cars.length := by rw [hts] at hi; exact hi
      obtain ⟨t, ht, rfl⟩ : ∃ t, ts[i]? = some t ∧ x2 = V.ref t := by
        have e2 : (ts.map V.ref)[i]? = some x2 := e2
        rw [List.getElem?_map] at e2
        obtain ⟨t, z1, z2⟩ := Option.map_eq_some_iff.mp e2
        exact ⟨t, z1, z2.symm⟩
      have hc : cars[i]? = some cars[i] := List.getElem?_eq_getElem hic
      have hct := hcar i t _ ht hc
      have sT : Same H1 (upd H1 T (.tup [.int (i : Nat), .ref t])) := fun b o e => by rw [upd_ne (ne_of_none e hT)]; exact e
      have h2 := sT _ _ (s1 _ _ hct)
      have C0 := C.all _ (List.getElem_mem hic)
      refine ⟨T, _, rfl, SqT.of upd_same, rfl, _, _, rfl, _, _, rfl, rfl, ?_⟩
      refine ⟨_, rfl, rfl, _, rfl, ?_⟩
      have ne10 : ¬ (V.int (i : Nat) = V.int 10) := fun z => by
        injection z with z
        have := C.few
        omega
      rw [decide_eq_false ne10]
      refine iteF ?_
      refine ⟨_, rfl, t, cars[i], rfl, h2, C0, fun H3 s3 => ⟨true, rfl, iteF ?_⟩⟩
      refine ⟨_, rfl, t, _, 0, .str cars[i].name, rfl, rfl, SqT.of (s3 _ _ h2), rfl, _, rfl, l, _, rfl, .inl (SqL.of (s3 _ _ (sT _ _ hL))), rfl, flat_strs _, false, ?_, iteF ?_⟩
      · rw [inV_str]
        have : ¬ cars[i].name ∈ (cars.take i).map (·.name) := fun hm => by
          obtain ⟨j, hj⟩ := List.mem_iff_getElem?.mp hm
          rw [List.getElem?_map] at hj
          obtain ⟨c', hc', en⟩ := Option.map_eq_some_iff.mp hj
          have hj2 : j < i := by
            have := (List.getElem?_eq_some_iff.mp hc').1
            rw [List.length_take] at this
            omega
          rw [List.getElem?_take_of_lt hj2] at hc'
          have a1 : (cars.map (·.name))[j]? = some cars[i].name := by rw [List.getElem?_map, hc']; exact congrArg some en
          have a2 : (cars.map (·.name))[i]? = some cars[i].name := by rw [List.getElem?_map, hc]; rfl
          have := nd_ix C.nd a1 a2
          omega
        rw [decide_eq_false this]
        rfl
      · have hl3 := s3 _ _ (sT _ _ hL)
        refine ⟨_, rfl, .inl ⟨rfl, _, SqL.of hl3⟩, _, rfl, t, _, 0, .str cars[i].name, rfl, rfl, SqT.of (s3 _ _ h2), rfl, l, _, _, rfl, rfl, hl3, ?_, ?_⟩
        · rw [List.length_map, List.length_map, List.length_take]
          have := C.few
          exact small1000 (by omega)
        · refine ⟨_, _, rfl, fun b o e => ?_, ?_⟩
          · rw [upd_ne (ne_of_none e hl)]
            exact s3 _ _ (sT _ _ (s1 _ _ e))
          · rw [upd_same, tk1 hc, List.map_append, List.map_append]
            rfl
    · rintro σ H1 ⟨v2, v3, rfl, s1, hL⟩
      exact k H1 s1
end
end Sl

set_option Elab.async false
set_option linter.all false
set_option maxRecDepth 100000
set_option maxHeartbeats 1000000
namespace Sl
open PySem PySem.Spec L2 OwnR LamX
/-- a def whose code object's address is known -/
structure FunC (K : PySem.W.Frag) (x qual : Str) (st : Stmt) (f : Addr) (fd : FuncData) (c : Addr) : Prop where
  ex : ∃ (oc : Value) (od : Option Addr) (kV doc pm : Value) (an : Option Addr) (ct : Value) (osl : Array (Option Value)),
    fd = PySem.W.fnOf x qual (defArgs st) (defBody st) (defScope st) .none kV doc pm an (.ref c) ct ∧ K.lookup f = some ⟨oc, od, .func fd, osl⟩ ∧ PySem.W.codeIn K (.ref c) qual = true
  kp : PySem.W.keepIn K (.ref f) = true
section
variable {P : Program} {w : World} {K : PySem.W.Frag} {mg : Str → Option Value} {base : Heap}
theorem FunC.ok {x qual : Str} {st : Stmt} {f c : Addr} {fd : FuncData} {N ps : List Str} {k : Nat} {sp : Sp} (F : FunC K x qual st f fd c) (S : FnScope N ps (defScope st)) (len : ∀ vs H Q E, sp vs H Q E → vs.length = ps.length)
    (hbody : ∀ (A : Around) (outer : List Env) (s : Shared) (H : Hp) (vs : List V) (Q : VK) (E : XK), Room k (A.deeper (PyProof.Rows.envOfC qual (defScope st) s.heap.objs.size f (.ref c))) → sp vs H Q E →
      ∃ t, PSs (cxOf CX0 P w K mg base N qual (defScope st) f (.ref c) A outer s H E).nox (defBody st) t ∧ t { nx := fun _ H' => Q .non H', rt := Q } (start N vs) H) : FnOk P w K mg base CX0 (k + 1) f fd ps sp := by
  obtain ⟨oc, od, kV, doc, pm, an, ct, osl, rfl, lk, hcd⟩ := F.ex
  refine fn_of lk hcd S len fun A outer s H vs Q E hr hsp => ?_
  obtain ⟨t, h, q⟩ := hbody A outer s H vs Q E hr hsp
  exact ⟨t, h.nox, q⟩
structure FbC (K : PySem.W.Frag) (mg : Str → Option Value) (x : Str) (st : Stmt) (ps : List Str) (f : Addr) (fd : FuncData) (c : Addr) : Prop where
  fn : FunC K x x st f fd c
  at_ : mg x = some (.ref f)
  bd : Binds K fd ps []
/-- what stands behind a step that may have made code objects -/
theorem ExtN.same {H H' : Hp} (e : Same H H') : ExtN H H' := fun b o h _ => e b o h
theorem ExtN.lst {H H' : Hp} (e : ExtN H H') {a : Addr} {xs : List V} (h : H a = some (.lst xs)) : H' a = some (.lst xs) := e _ _ h (fun _ z => nomatch z)
theorem ExtN.tup {H H' : Hp} (e : ExtN H H') {a : Addr} {xs : List V} (h : H a = some (.tup xs)) : H' a = some (.tup xs) := e _ _ h (fun _ z => nomatch z)
theorem ExtN.dK {H H' : Hp} (e : ExtN H H') {a : Addr} {xs : List (Key × V)} (h : H a = some (.dK xs)) : H' a = some (.dK xs) := e _ _ h (fun _ z => nomatch z)
theorem ExtN.ins {H H' : Hp} (e : ExtN H H') {a C d : Addr} {xs : List (Str × V)} (h : H a = some (.ins C d xs)) : H' a = some (.ins C d xs) := e _ _ h (fun _ z => nomatch z)
theorem ExtN.sqT {H H' : Hp} (e : ExtN H H') {a : Addr} {xs : List V} (h : SqT K H a xs) : SqT K H' a xs := by
  rcases h with (h | ⟨o, h⟩) | h
  · exact .inl (.inl (e _ _ h fun _ z => nomatch z))
  · exact .inl (.inr ⟨o, e _ _ h fun _ z => nomatch z⟩)
  · exact .inr h
theorem ExtN.sqL {H H' : Hp} (e : ExtN H H') {a : Addr} {xs : List V} (h : SqL K H a xs) : SqL K H' a xs := by
  rcases h with (h | ⟨o, h⟩) | h
  · exact .inl (.inl (e _ _ h fun _ z => nomatch z))
  · exact .inl (.inr ⟨o, e _ _ h fun _ z => nomatch z⟩)
  · exact .inr h
theorem CarsAt.ext {H H' : Hp} {a : Addr} {cars : List Car} (h : CarsAt H a cars) (e : ExtN H H') : CarsAt H' a cars := by
  obtain ⟨ts, h1, h2, h3⟩ := h
  exact ⟨ts, ExtN.tup e h1, h2, fun i t c e1 e2 => ExtN.tup e (h3 i t c e1 e2)⟩
/-! ### _in_order -/
/-- nothing that was tracked, but tables, stands at D -/
def New (H : Hp) (D : Addr) : Prop := ∀ b o, H b = some o → (∀ ps, o ≠ .tbl ps) → b ≠ D
theorem New.of {H : Hp} {D : Addr} (h : H D = none) : New H D := fun b o e _ => ne_of_none e h
theorem New.ext {H H' : Hp} {D : Addr} (e : ExtN H H') (h : New H' D) : New H D := fun b o x n => h b o (e b o x n) n
theorem zip_self (tk : Str → Int) : ∀ names : List Str, (names.map tk).zip (names.map V.str) = (names.map fun n => (tk n, n)).map fun q => (q.1, V.str q.2)
  | [] => rfl
  | n :: r => by
    simp only [List.map_cons, List.zip_cons_cons]
    rw [zip_self tk r]
def qInOrder : Str := ("_in_order" : Str) ++ (".<locals>." : Str) ++ ("<lambda>" : Str)
def spInOrder (K : PySem.W.Frag) (T : List (Addr × Str)) : Sp := fun vs H Q _ => ∃ (p d : Addr) (names : List Str) (kvs : List (Key × V)) (tk : Str → Int), vs = [.ref p, .ref d] ∧ SqL K H p (names.map V.str) ∧ H d = some (.dK kvs) ∧
  (∀ n ∈ names, valV kvs (.inr n) = some (.int (tk n))) ∧ Tabs T H ∧ ∀ H' D, ExtN H H' → Tabs T H' → New H D → H' D = some (.lst ((sortBy tk names).map V.str)) → Q (.ref D) H'
theorem scInOrder : FnScope ["names", "ticks"] ["names", "ticks"] (defScope sInOrder) := ⟨rfl, rfl, rfl, by decide +kernel, rfl, by decide +kernel, by decide +kernel⟩
theorem ok_inOrder {f c Pt : Addr} {fd : FuncData} {T : List (Addr × Str)} (F : FbC K mg "_in_order" sInOrder ["names", "ticks"] f fd c) (M : Mg mg) (TB : TabB base mg c Pt) (hm : (Pt, qInOrder) ∈ T) (hu : ∀ p ∈ T, p.1 = Pt → p.2 = qInOrder) :
    FnOk P w K mg base CX0 3 f fd ["names", "ticks"] (spInOrder K T) := by
  refine F.fn.ok scInOrder (fun vs H Q E h => ?_) (fun A outer s H vs Q E hr h => ?_)
  · obtain ⟨p, d, names, kvs, tk, rfl, _⟩ := h
    rfl
  · obtain ⟨p, d, names, kvs, tk, rfl, hp, hd, hk, hT, k⟩ := h
    refine ⟨_, pss_one (ps_ret (pe_sortLam (par := "name") hr TB rfl hm hu (by rfl) M.sorted (lamP_by (sc := defScope sInOrder) (by decide +kernel)) (pv 0) (pk_dict (j := 1) rfl (by decide +kernel) (by decide +kernel) (lamP_by (sc := defScope sInOrder) (by decide +kernel)) (Or.inr (Or.inl rfl))))), ?_⟩
    refine ⟨_, rfl, p, names.map V.str, names.map tk, rfl, .inl hp, by simp, hT, fun H2 e i x kk hx hkk => ?_, fun H2 D e T2 fD => ?_⟩
    · rw [List.getElem?_map] at hx hkk
      obtain ⟨n, hn, rfl⟩ := Option.map_eq_some_iff.mp hx
      rw [hn] at hkk
      cases hkk
      exact ⟨d, kvs, .inr n, rfl, .inl (ExtN.dK e hd), rfl, hk n (List.mem_of_getElem? hn)⟩
    · have e1 : (isort ((names.map tk).zip (names.map V.str))).map (·.2) = (sortBy tk names).map V.str := by
        rw [zip_self, isort_map, List.map_map]
        unfold sortBy
        rw [List.map_map]
        rfl
      rw [e1]
      exact k _ D (fun b o h n => by rw [upd_ne (ne_of_none (e b o h n) fD)]; exact e b o h n) (T2.ext fun b o h => by rw [upd_ne (ne_of_none h fD)]; exact h) (New.ext e (New.of fD)) upd_same
end
end Sl

/-! The mathematics of driving: rows of (name, tick, leader) behind a section. -/
namespace Sl
open OwnR
section
variable {N : Type} [DecidableEq N]
abbrev RowT (N : Type) := N × Int × Option N
/-- one more car enters a narrow section -/
def fnext (free : N → Int) (acc : List (RowT N)) (n : N) : RowT N :=
  match acc.getLast? with
  | none => (n, free n, none)
  | some (a, t, l) => if free n < t then (n, t, some (l.getD a)) else (n, free n, none)
def foll (free : N → Int) (order : List N) : List (RowT N) := order.foldl (fun acc n => acc ++ [fnext free acc n]) []
theorem fnext_name (free : N → Int) (acc : List (RowT N)) (n : N) : (fnext free acc n).1 = n := by
  unfold fnext
  split
  · rfl
  · split <;> rfl
theorem foll_snoc (free : N → Int) (order : List N) (n : N) : foll free (order ++ [n]) = foll free order ++ [fnext free (foll free order) n] := by
  unfold foll
  rw [List.foldl_append]
  rfl
theorem foll_names (free : N → Int) (order : List N) : (foll free order).map (·.1) = order := by
  have h : ∀ (l : List N) (acc : List (RowT N)), (l.foldl (fun acc n => acc ++ [fnext free acc n]) acc).map (·.1) = acc.map (·.1) ++ l := by
    intro l
    induction l with
    | nil => intro acc; simp
    | cons n r ih =>
      intro acc
      rw [List.foldl_cons, ih, List.map_append, List.append_assoc]
      simp [fnext_name]
  have := h order []
  simpa [foll] using this
theorem foll_length (free : N → Int) (order : List N) : (foll free order).length = order.length := by
  have := congrArg List.length (foll_names free order)
  simpa using this
/-- what a row list tells of a name -/
def look (acc : List (RowT N)) (n : N) : Option (Int × Option N) := (acc.find? fun r => decide (r.1 = n)).map (·.2)
theorem look_nil (n : N) : look ([] : List (RowT N)) n = none := rfl
theorem look_none {acc : List (RowT N)} {n : N} (h : n ∉ acc.map (·.1)) : look acc n = none := by
  unfold look
  rw [List.find?_eq_none.mpr]
  · rfl
  · intro r hr
    simp only [decide_eq_true_eq]
    intro e
    exact h (List.mem_map.mpr ⟨r, hr, e⟩)
theorem look_snoc (acc : List (RowT N)) (r : RowT N) (m : N) (h : r.1 ∉ acc.map (·.1)) : look (acc ++ [r]) m = if m = r.1 then some r.2 else look acc m := by
  by_cases e : m = r.1
  · subst e
    have h1 : acc.find? (fun x => decide (x.1 = r.1)) = none := by
      rw [List.find?_eq_none]
      intro x hx
      simp only [decide_eq_true_eq]
      exact fun z => h (List.mem_map.mpr ⟨x, hx, z⟩)
    unfold look
    rw [List.find?_append, h1]
    simp
  · rw [if_neg e]
    unfold look
    rw [List.find?_append]
    have h1 : ([r] : List (RowT N)).find? (fun x => decide (x.1 = m)) = none := by
      have : ¬ r.1 = m := fun z => e z.symm
      simp [this]
    rw [h1]
    simp
theorem look_get {acc : List (RowT N)} (nd : (acc.map (·.1)).Nodup) {i : Nat} {r : RowT N} (h : acc[i]? = some r) : look acc r.1 = some r.2 := by
  induction acc generalizing i with
  | nil => simp at h
  | cons a l ih =>
    rw [List.map_cons, List.nodup_cons] at nd
    cases i with
    | zero =>
      have e : a = r := by simpa using h
      subst e
      unfold look
      simp
    | succ j =>
      have hj : l[j]? = some r := by simpa using h
      have hm : r.1 ∈ l.map (·.1) := List.mem_map.mpr ⟨r, List.mem_of_getElem? hj, rfl⟩
      have hne : ¬ a.1 = r.1 := fun z => nd.1 (z ▸ hm)
      have := ih nd.2 hj
      unfold look at this ⊢
      rw [List.find?_cons, decide_eq_false hne]
      exact this
theorem look_some {acc : List (RowT N)} {n : N} (h : n ∈ acc.map (·.1)) : ∃ x, look acc n = some x := by
  obtain ⟨r, hr, e⟩ := List.mem_map.mp h
  unfold look
  cases q : acc.find? (fun r => decide (r.1 = n)) with
  | none =>
    rw [List.find?_eq_none] at q
    have := q r hr
    simp [e] at this
  | some z => exact ⟨z.2, rfl⟩
def tickOf (acc : List (RowT N)) (n : N) : Int := ((look acc n).map (·.1)).getD 0
def leadOf (acc : List (RowT N)) (n : N) : Option N := (look acc n).bind (·.2)
end
end Sl

set_option Elab.async false
set_option linter.all false
set_option maxRecDepth 100000
set_option maxHeartbeats 1000000
namespace Sl
open PySem PySem.Spec L2 OwnR LamX
theorem key_eq (a b : Str) : ((Sum.inr a : Key) = Sum.inr b) = (a = b) := by
  refine propext ⟨fun h => Sum.inr.inj h, fun h => congrArg _ h⟩
/-- a dict of ticks, a dict of leaders, as the rows tell -/
def TkD (kvs : List (Key × V)) (acc : List (RowT Str)) : Prop := ∀ n, valV kvs (Sum.inr n : Key) = (look acc n).map fun x => V.int x.1
def LdD (kvs : List (Key × V)) (acc : List (RowT Str)) : Prop := ∀ n, valV kvs (Sum.inr n : Key) = (look acc n).bind fun x => x.2.map V.str
theorem valV_putS (kvs : List (Key × V)) (k j : Str) (y : V) : valV (putK kvs (Sum.inr k : Key) y) (Sum.inr j : Key) = if j = k then some y else valV kvs (Sum.inr j : Key) := by
  rw [valV_put]
  by_cases e : j = k
  · rw [if_pos e, if_pos (congrArg _ e)]
  · rw [if_neg e, if_neg (fun z => e (Sum.inr.inj z))]
theorem gk {H : Hp} {a : Addr} {kvs : List (Key × V)} {n : Str} {v : V} (e : H a = some (.dK kvs)) (h : valV kvs (Sum.inr n : Key) = some v) : DGet H a (.str n) (some v) := by
  have q := DGet.k (k := (Sum.inr n : Key)) e
  rw [h] at q
  exact q
theorem gk0 {H : Hp} {a : Addr} {kvs : List (Key × V)} {n : Str} {o : Option V} (e : H a = some (.dK kvs)) (h : valV kvs (Sum.inr n : Key) = o) : DGet H a (.str n) o := by
  have q := DGet.k (k := (Sum.inr n : Key)) e
  rw [h] at q
  exact q
theorem look_last {acc : List (RowT Str)} (nd : (acc.map (·.1)).Nodup) {r : RowT Str} (h : acc.getLast? = some r) : look acc r.1 = some r.2 := by
  rw [List.getLast?_eq_getElem?] at h
  exact look_get nd h
theorem TkD.put {kvs : List (Key × V)} {acc : List (RowT Str)} {r : RowT Str} (h : TkD kvs acc) (hn : r.1 ∉ acc.map (·.1)) : TkD (putK kvs (Sum.inr r.1 : Key) (.int r.2.1)) (acc ++ [r]) := by
  intro m
  rw [valV_putS, look_snoc acc r m hn]
  by_cases e : m = r.1
  · rw [if_pos e, if_pos e]; rfl
  · rw [if_neg e, if_neg e]; exact h m
theorem TkD.put2 {kvs : List (Key × V)} {acc : List (RowT Str)} {r : RowT Str} {y : V} (h : TkD kvs acc) (hn : r.1 ∉ acc.map (·.1)) : TkD (putK (putK kvs (Sum.inr r.1 : Key) y) (Sum.inr r.1 : Key) (.int r.2.1)) (acc ++ [r]) := by
  intro m
  rw [valV_putS, valV_putS, look_snoc acc r m hn]
  by_cases e : m = r.1
  · rw [if_pos e, if_pos e]; rfl
  · rw [if_neg e, if_neg e, if_neg e]; exact h m
theorem LdD.put {kvs : List (Key × V)} {acc : List (RowT Str)} {r : RowT Str} {l : Str} (h : LdD kvs acc) (hn : r.1 ∉ acc.map (·.1)) (hl : r.2.2 = some l) : LdD (putK kvs (Sum.inr r.1 : Key) (.str l)) (acc ++ [r]) := by
  intro m
  rw [valV_putS, look_snoc acc r m hn]
  by_cases e : m = r.1
  · rw [if_pos e, if_pos e]; simp [hl]
  · rw [if_neg e, if_neg e]; exact h m
theorem LdD.skip {kvs : List (Key × V)} {acc : List (RowT Str)} {r : RowT Str} (h : LdD kvs acc) (hn : r.1 ∉ acc.map (·.1)) (hl : r.2.2 = none) : LdD kvs (acc ++ [r]) := by
  intro m
  rw [look_snoc acc r m hn]
  by_cases e : m = r.1
  · rw [if_pos e, h m, e, look_none hn]; simp [hl]
  · rw [if_neg e]; exact h m
section
variable {P : Program} {w : World} {K : PySem.W.Frag} {mg : Str → Option Value} {base : Heap}
def spFollow (K : PySem.W.Frag) : Sp := fun vs H Q _ => ∃ (p d : Addr) (order : List Str) (kvs : List (Key × V)) (fr : Str → Int), vs = [.ref p, .ref d] ∧ SqL K H p (order.map V.str) ∧ H d = some (.dK kvs) ∧
  (∀ n ∈ order, valV kvs (Sum.inr n : Key) = some (.int (fr n))) ∧ order.Nodup ∧ order.length ≤ 100 ∧
  ∀ H' t L G kL kG, Same H H' → H L = none → H G = none → L ≠ G → H' t = some (.tup [.ref L, .ref G]) → H' L = some (.dK kL) → H' G = some (.dK kG) → TkD kL (foll fr order) → LdD kG (foll fr order) → Q (.ref t) H'
theorem scFollow : FnScope ["order", "free", "left", "leaders", "ahead", "name"] ["order", "free"] (defScope sFollow) := ⟨rfl, rfl, rfl, by decide +kernel, rfl, by decide +kernel, by decide +kernel⟩
def aheadV (acc : List (RowT Str)) : V := match acc.getLast? with
  | none => .non
  | some r => .str r.1
theorem ok_follow {f : Addr} {fd : FuncData} (F : Fb K mg "_follow" sFollow ["order", "free"] f fd) : FnOk P w K mg base CX0 1 f fd ["order", "free"] (spFollow K) := by
  refine F.fn.ok scFollow (fun vs H Q E h => ?_) (fun cdv A outer s H vs Q E hr h => ?_)
  · obtain ⟨p, d, o, kvs, fr, rfl, _⟩ := h
    rfl
  · obtain ⟨p, d, order, kvs, fr, rfl, hp, hd, hk, hnd, hlen, k⟩ := h
    have nd := scFollow.nd
    have hu := hu_of hr
    refine ⟨_, pss_cons (ps_set (i := 2) nd rfl (.inl rfl) pe_dnewK) (pss_cons (ps_set (i := 3) nd rfl (.inl rfl) pe_dnewK) (pss_cons (ps_set (i := 4) nd rfl (.inl rfl) pe_non)
      (pss_cons (ps_for PassesOwn.never rfl (pi_list (pv 0)) (pg_name (i := 5) nd rfl (.inl rfl))
        (pss_cons (ps_dput hu (pv 2) (pv 5) (pe_dget hu (pv 1) (pv 5) (fun _ _ => rfl)) rfl)
        (pss_cons (ps_if (PW.pt (pw_and (pt_cmp (pc_notN (pv 4))) (pw_and1 (pt_cmpR op_lt (pe_dget hu (pv 1) (pv 5) (fun _ _ => rfl)) (pe_dget hu (pv 2) (pv 4) (fun _ _ => rfl)) (nomark _)))))
            (pss_cons (ps_dput hu (pv 2) (pv 5) (pe_dget hu (pv 2) (pv 4) (fun _ _ => rfl)) rfl) (pss_one (ps_dput hu (pv 3) (pv 5) (pe_dget2 hu (pv 3) (pv 4) (pv 4) ⟨rfl, rfl, rfl, rfl⟩) rfl))) pss_nil)
          (pss_one (ps_set (i := 4) nd rfl (.inl rfl) (pv 5))))))
      (pss_one (ps_ret (pe_tup (pa_cons (pv 2) (pa_cons (pv 3) pa_nil)))))))), ?_⟩
    intro L hL G hG
    have nLG : L ≠ G := ne_of_none (H := upd H L (.dK [])) upd_same hG
    have hG0 : H G = none := by rw [upd_ne nLG.symm] at hG; exact hG
    have ndL : d ≠ L := ne_of_none hd hL
    have ndG : d ≠ G := ne_of_none hd hG0
    have s0 : Same H (upd (upd H L (.dK [])) G (.dK [])) := fun b o e => by rw [upd_ne (ne_of_none e hG0), upd_ne (ne_of_none e hL)]; exact e
    refine ⟨_, rfl, p, rfl, ⟨_, s0.seq hp⟩, for_list (K := K) (a := p) (xs := order.map V.str) (fun i σ H1 => ∃ v5 kL kG, σ = [some (.ref p), some (.ref d), some (.ref L), some (.ref G), some (aheadV (foll fr (order.take i))), v5] ∧ Same H H1 ∧
        H1 L = some (.dK kL) ∧ H1 G = some (.dK kG) ∧ TkD kL (foll fr (order.take i)) ∧ LdD kG (foll fr (order.take i)) ∧ kL.length ≤ 2 * i ∧ kG.length ≤ i)
      ⟨none, [], [], rfl, s0, by rw [upd_ne nLG, upd_same], upd_same, fun n => rfl, fun n => rfl, Nat.zero_le _, Nat.zero_le _⟩ (fun i σ H1 _ ⟨_, _, _, _, s1, _⟩ => s1.seq hp) ?_ ?_⟩
    · rintro i x σ H1 hi ⟨v5, kL, kG, rfl, s1, h1, h2, tL, tG, lL, lG⟩
      obtain ⟨n, hn, rfl⟩ : ∃ n, order[i]? = some n ∧ x = V.str n := by
        rw [List.getElem?_map] at hi
        obtain ⟨n, z1, z2⟩ := Option.map_eq_some_iff.mp hi
        exact ⟨n, z1, z2.symm⟩
      have hil : i < order.length := (List.getElem?_eq_some_iff.mp hn).1
      have hfr := hk n (List.mem_of_getElem? hn)
      have hd1 := s1 _ _ hd
      have enames := foll_names fr (order.take i)
      have hnew : n ∉ (foll fr (order.take i)).map (·.1) := by
        rw [enames]
        intro hm
        obtain ⟨j, hj⟩ := List.mem_iff_getElem?.mp hm
        have hj2 : j < i := by
          have := (List.getElem?_eq_some_iff.mp hj).1
          rw [List.length_take] at this
          omega
        rw [List.getElem?_take_of_lt hj2] at hj
        have := nd_ix hnd hj hn
        omega
      have etk : foll fr (order.take (i + 1)) = foll fr (order.take i) ++ [fnext fr (foll fr (order.take i)) n] := by rw [tk1 hn, foll_snoc]
      have lk := fun m => look_snoc (foll fr (order.take i)) (fnext fr (foll fr (order.take i)) n) m (by rw [fnext_name]; exact hnew)
      rw [fnext_name] at lk
      have hndA : ((foll fr (order.take i)).map (·.1)).Nodup := by
        rw [enames]
        exact hnd.sublist (List.take_sublist _ _)
      rw [etk]
      generalize foll fr (order.take i) = acc at *
      have hn1 : (fnext fr acc n).1 ∉ acc.map (·.1) := by rw [fnext_name]; exact hnew
      have zL : kL.length < sizeLine := small1000 (by omega)
      have zG : kG.length < sizeLine := small1000 (by omega)
      have nLG2 : L ≠ G := nLG
      refine ⟨_, rfl, _, rfl, d, _, rfl, gk hd1 hfr, _, rfl, _, rfl, L, _, rfl, DPut.k (k := (Sum.inr n : Key)) h1 zL, ?_⟩
      have l1 := length_putK kL (Sum.inr n : Key) (.int (fr n))
      have hLast : ∀ (r : RowT Str), aheadV (acc ++ [r]) = .str r.1 := fun r => by
        unfold aheadV
        rw [List.getLast?_append]
        rfl
      have sL : Same H (upd H1 L (.dK (putK kL (Sum.inr n : Key) (.int (fr n))))) := fun b o e => by rw [upd_ne (ne_of_none e hL)]; exact s1 b o e
      cases hl : acc.getLast? with
      | none =>
        have eV : aheadV acc = .non := by unfold aheadV; rw [hl]
        have ef : fnext fr acc n = (n, fr n, none) := by unfold fnext; rw [hl]
        rw [eV]
        refine ⟨_, rfl, _, rfl, ?_⟩
        rw [show (!decide (V.non = V.non)) = false by simp]
        refine iteF ?_
        refine iteF ?_
        rw [ef] at hn1 ⊢
        refine ⟨_, rfl, some (.str n), _, _, ?_, sL, upd_same, by rw [upd_ne nLG.symm]; exact h2, tL.put (r := (n, fr n, none)) hn1, tG.skip hn1 rfl, by omega, by omega⟩
        rw [hLast]
        rfl
      | some r =>
        obtain ⟨a, t, l⟩ := r
        have eV : aheadV acc = .str a := by unfold aheadV; rw [hl]
        have la := look_last hndA hl
        have nea : a ≠ n := fun z => by
          rw [z, look_none hnew] at la
          cases la
        have ga : valV (putK kL (Sum.inr n : Key) (.int (fr n))) (Sum.inr a : Key) = some (.int t) := by
          rw [valV_putS, if_neg nea, tL a, la]
          rfl
        have gL : upd H1 L (.dK (putK kL (Sum.inr n : Key) (.int (fr n)))) L = some (.dK (putK kL (Sum.inr n : Key) (.int (fr n)))) := upd_same
        rw [eV]
        refine ⟨_, rfl, _, rfl, ?_⟩
        rw [show (!decide (V.str a = V.non)) = true by simp]
        refine iteT ?_
        refine ⟨_, rfl, _, rfl, d, _, rfl, gk (by rw [upd_ne ndL]; exact hd1) hfr, _, rfl, _, rfl, L, _, rfl, gk gL ga, fr n, t, rfl, rfl, _, rfl, ?_⟩
        by_cases hc : fr n < t
        · rw [decide_eq_true hc]
          refine iteT ?_
          have ef : fnext fr acc n = (n, t, some (l.getD a)) := by
            unfold fnext
            rw [hl]
            exact if_pos hc
          have gG : valV kG (Sum.inr a : Key) = l.map V.str := by rw [tG a, la]; rfl
          have l2 := length_putK (putK kL (Sum.inr n : Key) (.int (fr n))) (Sum.inr n : Key) (.int t)
          have l3 := length_putK kG (Sum.inr n : Key) (.str (l.getD a))
          have eg : ((l.map V.str).getD (.str a)) = V.str (l.getD a) := by cases l <;> rfl
          rw [ef] at hn1 ⊢
          refine ⟨_, rfl, _, rfl, L, _, rfl, gk gL ga, _, rfl, _, rfl, L, _, rfl, DPut.k (k := (Sum.inr n : Key)) gL (small1000 (by omega)), ?_⟩
          have gG2 : (upd (upd H1 L (.dK (putK kL (Sum.inr n : Key) (.int (fr n))))) L (.dK (putK (putK kL (Sum.inr n : Key) (.int (fr n))) (Sum.inr n : Key) (.int t)))) G = some (.dK kG) := by rw [upd_ne nLG.symm, upd_ne nLG.symm]; exact h2
          refine ⟨_, rfl, G, rfl, .inl ⟨_, .inl gG2⟩, _, rfl, _, rfl, _, gk0 gG2 gG, ?_⟩
          rw [eg]
          refine ⟨_, rfl, _, rfl, G, _, rfl, DPut.k (k := (Sum.inr n : Key)) gG2 zG, ?_⟩
          refine ⟨_, rfl, some (.str n), _, _, ?_, fun b o e => ?_, by rw [upd_ne nLG, upd_same], upd_same, tL.put2 (r := (n, t, some (l.getD a))) hn1, tG.put (r := (n, t, some (l.getD a))) hn1 rfl, Nat.le_trans l2 (by omega), Nat.le_trans l3 (by omega)⟩
          · rw [hLast]
            rfl
          · rw [upd_ne (ne_of_none e hG0), upd_ne (ne_of_none e hL)]
            exact sL b o e
        · rw [decide_eq_false hc]
          refine iteF ?_
          have ef : fnext fr acc n = (n, fr n, none) := by
            unfold fnext
            rw [hl]
            exact if_neg hc
          rw [ef] at hn1 ⊢
          refine ⟨_, rfl, some (.str n), _, _, ?_, sL, upd_same, by rw [upd_ne nLG.symm]; exact h2, tL.put (r := (n, fr n, none)) hn1, tG.skip hn1 rfl, by omega, by omega⟩
          rw [hLast]
          rfl
    · rintro σ H1 ⟨v5, kL, kG, rfl, s1, h1, h2, tL, tG, lL, lG⟩
      have e3 : order.take (order.map V.str).length = order := by rw [List.length_map, List.take_length]
      rw [e3] at tL tG
      refine ⟨_, rfl, _, rfl, by show 2 ≤ sizeLine; decide, fun t ht => ?_⟩
      exact k _ t L G kL kG (fun b o e => by rw [upd_ne (ne_of_none (s1 _ _ e) ht)]; exact s1 b o e) hL hG0 nLG upd_same (by rw [upd_ne (ne_of_none h1 ht)]; exact h1) (by rw [upd_ne (ne_of_none h2 ht)]; exact h2) tL tG
end
end Sl

set_option Elab.async false
set_option linter.all false
set_option maxRecDepth 100000
set_option maxHeartbeats 1000000
namespace OwnR
open PySem PySem.Spec PyProof.Rows L2
theorem fold_flat : ∀ (l : List (Array Nat)) (acc : Array Nat), (l.foldl (· ++ ·) acc).toList = acc.toList ++ (l.map (·.toList)).flatten
  | [], acc => by simp
  | a :: r, acc => by
    rw [List.foldl_cons, fold_flat r, List.map_cons, List.flatten_cons]
    simp
/-- z * n, a text repeated, n from 1 -/
def rRepS : R2 := fun x y H Q => ∃ (z : Str) (n : Nat), x = .str z ∧ y = .int (n : Int) ∧ 1 ≤ n ∧ n ≤ 1000000 ∧ z.length * n ≤ 1000000 ∧ ∀ u : Str, u.cps.toList = (List.replicate n z.cps.toList).flatten → Q (.str u) H
theorem line_big : 1000000 ≤ sizeLine := by decide
theorem op_repS {X : Cx} : OpR X (binaryOp .Mult) rRepS := by
  intro pins s σ H x y v u Q I rx ry h
  obtain ⟨z, n, rfl, rfl, h1, hn, hz, q⟩ := h
  obtain ⟨t, rfl⟩ := (show ∃ t, v = Value.str z t from rx)
  obtain ⟨t', rfl⟩ := (show ∃ t, u = Value.int (n : Int) t from ry)
  have hn1 : ¬ (n : Int) < 1 := by omega
  have hzl : (z.length : Int) * (n : Int) ≤ 1000000 := by
    rw [← Int.natCast_mul]
    generalize z.length * n = mm at hz
    omega
  refine P.mul_str (by
      rw [decide_eq_false (by omega : ¬ (n : Int) < -(2 ^ 63)), decide_eq_false (by omega : ¬ (n : Int) ≥ 2 ^ 63)]
      rfl) (fun _ hne => ?_) (fun _ hne => ?_) ?_
  · have e1 : (z.length : Int) ≤ (2 ^ 63 - 1 : Int) / (n : Int) := by
      refine Int.le_ediv_of_mul_le (by omega) ?_
      exact Int.le_trans hzl (by decide)
    exact Int.not_lt.mpr e1
  · unfold Builtin.Str.tooLong
    have e2 : z.length * (n : Int).toNat ≤ sizeLine := by
      have : (n : Int).toNat = n := by omega
      rw [this]
      exact Nat.le_trans hz line_big
    simp only [decide_eq_false_iff_not]
    omega
  · rw [if_neg hn1]
    split
    · rename_i hb
      have hb : (n : Int) = 1 ∨ z.length = 0 := by simpa using hb
      refine ⟨.str z, H, I, ⟨t, rfl⟩, q z ?_⟩
      rcases hb with hb | hb
      · have : n = 1 := by omega
        subst this
        simp
      · have hl : z.cps.toList = [] := by
          have : z.cps.toList.length = 0 := by simpa [Str.length] using hb
          exact List.length_eq_zero_iff.mp this
        rw [hl]
        simp
    · have en : (n : Int).toNat = n := by omega
      rw [en]
      have ec : (⟨(List.replicate n z.cps).foldl (· ++ ·) #[]⟩ : Str).cps.toList = (List.replicate n z.cps.toList).flatten := by
        show ((List.replicate n z.cps).foldl (· ++ ·) #[]).toList = _
        rw [fold_flat, List.map_replicate]
        simp
      refine ⟨?_, .str _, H, I.tok _, ⟨_, rfl⟩, q _ ec⟩
      have : (⟨(List.replicate n z.cps).foldl (· ++ ·) #[]⟩ : Str).length = z.length * n := by
        show ((List.replicate n z.cps).foldl (· ++ ·) #[]).size = z.cps.size * n
        rw [← Array.length_toList, fold_flat, List.map_replicate]
        simp [Nat.mul_comm]
      rw [this]
      exact Nat.le_trans hz line_big
/-! ### d.get(k), d a written dict that has k -/
def tKGet1 (K : PySem.W.Frag) (w : World) (td ty : TE) : TE := fun σ H Q => td σ H fun x H1 => ∃ p, x = .ref p ∧ (p == sysModules) = false ∧ (∃ z0 v0, KDct K w p z0 v0) ∧ ty σ H1 fun y H2 => ∃ (z : Str) (v : V), y = .str z ∧ KDct K w p z v ∧ Q v H2
theorem pe_kget1 {X : Cx} {o e : Expr} {apos cpos : Pos} {td ty : TE} (ho : PE X o td) (he : PE X e ty) (m : M1 X o "get" apos e cpos) : PE X (.Call (.Attribute o "get" apos) [e] [] cpos) (tKGet1 X.K X.w td ty) := by
  refine ⟨fun pins s σ H Q I h => ?_⟩
  refine wpAny_Call_method m.base m.few m.line PySem.F.plainAttrs_dict PySem.F.slot_dict_get PySem.F.type_dict_get (thn (ho.run pins s σ H _ I h) fun u s1 ⟨x, H1, I1, rx, p, ex, np, ⟨z0, v0, es0, n0, u0, hl0, hk0, e0, _⟩, q1⟩ => ?_)
  subst ex
  cases (show u = Value.ref p from rx)
  have hm0 := PySem.W.mapOf_K (prog := X.prog) (w := X.w) I1.kIn hl0 hk0
  refine ⟨hm0.typeIs, fun b q => ?_, ?_⟩
  · cases q
    exact ⟨_, I1.kIn _ _ hl0, rfl⟩
  rw [m.trees]
  refine Calls.callWith_builtin rfl (Calls.evalArgs_plain (Calls.spliced_cons (thn (he.run pins s1 σ H1 _ I1 q1) fun iv s2 ⟨y, H2, I2, ry, z, v, ey, kd, q2⟩ => Calls.spliced_nil ?_)))
  subst ey
  obtain ⟨es, n, u1, hl, hk, e1, ru⟩ := kd
  obtain ⟨t, rfl⟩ := (show ∃ t, iv = Value.str z t from ry)
  have hm := PySem.W.mapOf_K (prog := X.prog) (w := X.w) I2.kIn hl hk
  have hf := PySem.W.find_K hl e1
  refine call_meetsIn PySem.F.slot_dict_get hm.typeIs PySem.F.entry_dict_get (PySem.F.args_dict_get_2 _ _) (meets_dict_get (strKind X.prog X.w) p (strKind_is X.prog X.w z t) np) ⟨_, hm, ?_⟩
  rw [hf]
  exact ⟨v, H2, I2.tok _, ru, q2⟩
/-! ### a dict comprehension over any walk -/
theorem dc_it {J : It} {n : Nat} {G : Hp → Prop} {Y : Nat → Hp → V → Hp → Prop} (wk : Walk J n G Y) {g : TG} {tt : TT} {tk tv : TE} {vs : List Nat} {σ : L2.St} {H1 : Hp} {D : Addr} {Qd : Hp → Prop} (Pv : Nat → Hp → Prop) (h0 : Pv 0 (upd H1 D (.dK []))) (hG : ∀ i H, i ≤ n → Pv i H → G H)
    (hs : ∀ i x H H', i < n → Pv i H → Y i H x H' → g x (wipe σ vs) H' fun σ2 H2 => wipe σ2 vs = wipe σ vs ∧ tt σ2 H2 fun b H3 =>
      if b = true then tk σ2 H3 fun y H4 => tv σ2 H4 fun z H5 => ∃ kvs k, y = kV k ∧ H5 D = some (.dK kvs) ∧ kvs.length < sizeLine ∧ Pv (i + 1) (upd H5 D (.dK (putK kvs k z))) else Pv (i + 1) H3) (hd : ∀ H, Pv n H → Qd H) :
    ∃ W : Nat → Nat → Hp → Prop, (∃ m, W 0 m (upd H1 D (.dK []))) ∧ ∀ i m H, W i m H →
      (J.stop i H ∧ Qd H) ∨ (J.go i H ∧ ∃ Nx : Hp → Prop, (∀ H', Nx H' → ∃ m', m' < m ∧ W (i + 1) m' H') ∧ ∀ x H', J.yld i H x H' → g x (wipe σ vs) H' fun σ2 H2 => wipe σ2 vs = wipe σ vs ∧ tt σ2 H2 fun b H3 =>
        if b = true then tk σ2 H3 fun y H4 => tv σ2 H4 fun z H5 => ∃ kvs k, y = kV k ∧ H5 D = some (.dK kvs) ∧ kvs.length < sizeLine ∧ Nx (upd H5 D (.dK (putK kvs k z))) else Nx H3) := by
  refine ⟨fun i m H => m + i = n ∧ Pv i H, ⟨n, by omega, h0⟩, ?_⟩
  rintro i m H ⟨em, p⟩
  have hi : i ≤ n := by omega
  have g0 := hG i H hi p
  rcases Nat.lt_or_ge i n with lt | ge
  · exact .inr ⟨wk.goes i H lt g0, Pv (i + 1), fun H' p' => ⟨n - (i + 1), by omega, by omega, p'⟩, fun x H' y => hs i x H H' lt p (wk.yields i H x H' lt g0 y)⟩
  · have ei : i = n := by omega
    subst ei
    exact .inl ⟨wk.stops H g0, hd H p⟩
end OwnR

set_option Elab.async false
set_option linter.all false
set_option maxRecDepth 100000
set_option maxHeartbeats 1000000
namespace Sl
open PySem PySem.Spec L2 OwnR LamX
/-- a section: whether it is wide, its length -/
abbrev Sec := Bool × Nat
def kindS (b : Bool) : Str := if b then "wide" else "narrow"
def letterC (b : Bool) : Nat := if b then 119 else 110
def secV (s : Sec) : List V := [.str (kindS s.1), .int (s.2 : Nat)]
def SecsAt (H : Hp) (a : Addr) (secs : List Sec) : Prop := ∃ ts : List Addr, H a = some (.tup (ts.map V.ref)) ∧ ts.length = secs.length ∧ ∀ (i : Nat) (t : Addr) (s : Sec), ts[i]? = some t → secs[i]? = some s → H t = some (.tup (secV s))
theorem SecsAt.ext {H H' : Hp} {a : Addr} {secs : List Sec} (h : SecsAt H a secs) (e : ExtN H H') : SecsAt H' a secs := by
  obtain ⟨ts, h1, h2, h3⟩ := h
  exact ⟨ts, ExtN.tup e h1, h2, fun i t c e1 e2 => ExtN.tup e (h3 i t c e1 e2)⟩
structure SecsOk (secs : List Sec) : Prop where
  ne : secs ≠ []
  few : secs.length ≤ 12
  len : ∀ s ∈ secs, 1 ≤ s.2 ∧ s.2 ≤ 99
section
variable {P : Program} {w : World} {K : PySem.W.Frag} {mg : Str → Option Value} {base : Heap}
def spIsSection : Sp := fun vs H Q _ => ∃ (t : Addr) (s : Sec), vs = [.ref t] ∧ H t = some (.tup (secV s)) ∧ 1 ≤ s.2 ∧ s.2 ≤ 99 ∧ ∀ H', Same H H' → Q (.bl true) H'
theorem scIsSection : FnScope ["value", "kind", "length"] ["value"] (defScope sIsSection) := ⟨rfl, rfl, rfl, by decide +kernel, rfl, by decide +kernel, by decide +kernel⟩
theorem ok_isSection {f fB : Addr} {fd dB : FuncData} (F : Fb K mg "_is_section" sIsSection ["value"] f fd) (M : Mg mg) (BB : Fb K mg "is_number" sIsNumber ["value", "least", "most"] fB dB)
    (GB : FnOk P w K mg base CX0 1 fB dB ["value", "least", "most"] spIsNumber) : FnOk P w K mg base CX0 2 f fd ["value"] spIsSection := by
  obtain ⟨t1, M1⟩ := M.longestSection
  refine F.fn.ok scIsSection (fun vs H Q E h => ?_) (fun cdv A outer s H vs Q E hr h => ?_)
  · obtain ⟨t, c, rfl, _⟩ := h
    rfl
  · obtain ⟨t, c, rfl, ht, c1, c2, k⟩ := h
    have nd := scIsSection.nd
    refine ⟨_, pss_cons (ps_if (PW.pt (pw_or (pt_not (pt_val (pe_callB call_isi (by rfl) M.isinstance boot_isinstance (pa_cons (pv 0) (pa_cons (pe_bltn (v := .ty "tuple") (by rfl) M.tuple boot_tTuple rfl) pa_nil)))))
        (pw_or1 (pt_cmpR op_ne (pe_callB call_len_seq (by rfl) M.len boot_len (pa_cons (pv 0) pa_nil)) pe_int (nomark _))))) (pss_one (ps_ret pe_bl)) pss_nil)
      (pss_cons (ps_asg (pv 0) (pg_tup (by rfl) (pgs_cons (pg_name (i := 1) nd rfl (.inl rfl)) (pgs_cons (pg_name (i := 2) nd rfl (.inl rfl)) pgs_nil))))
      (pss_one (ps_ret (pe_and (pe_cmpR op_in_seq (pv 1) (pe_tup (pa_cons pe_str (pa_cons pe_str pa_nil))) (by rfl))
          (pe_one (pe_call GB hr (by rfl) BB.at_ BB.fn.kp BB.bd .nil pass0 (pa_cons (pv 2) (pa_cons pe_int (pa_cons (pe_glob (v := .int 99) (by rfl) M1 ⟨_, rfl⟩) pa_nil))))))))), ?_⟩
    refine ⟨_, rfl, _, _, _, _, true, rfl, .ty _, .base (.tup ht), kit_ty (by decide +kernel), true, rfl, iteF ?_⟩
    refine ⟨_, rfl, t, _, rfl, .inr (SqT.of ht), rfl, false, rfl, iteF ?_⟩
    refine ⟨_, rfl, t, secV c, rfl, SqT.of ht, rfl, _, _, rfl, _, _, rfl, rfl, ?_⟩
    refine ⟨_, rfl, by show 2 ≤ sizeLine; decide, fun p hp => ?_⟩
    refine ⟨p, _, rfl, .inr (SqT.of upd_same), rfl, rfl, true, ?_, iteT ?_⟩
    · show V.bl (inV (.str (kindS c.1)) _) = V.bl true
      cases c.1 <;> rfl
    refine ⟨_, rfl, (c.2 : Nat), 1, 99, rfl, ?_⟩
    rw [decide_eq_true (by omega : (1 : Int) ≤ (c.2 : Nat)), decide_eq_true (by omega : ((c.2 : Nat) : Int) ≤ 99)]
    exact k _ fun b o e => by rw [upd_ne (ne_of_none e hp)]; exact e
end
end Sl

set_option Elab.async false
set_option linter.all false
set_option maxRecDepth 100000
set_option maxHeartbeats 1000000
namespace Sl
open PySem PySem.Spec L2 OwnR LamX
def unitsL (secs : List Sec) : List Nat := secs.flatMap fun s => List.replicate s.2 (letterC s.1)
theorem unitsL_len : ∀ secs : List Sec, (unitsL secs).length = (secs.map (·.2)).sum
  | [] => rfl
  | s :: r => by
    have := unitsL_len r
    simp [unitsL] at this ⊢
theorem unitsL_snoc (secs : List Sec) (s : Sec) : unitsL (secs ++ [s]) = unitsL secs ++ List.replicate s.2 (letterC s.1) := by simp [unitsL]
theorem sum_le {secs : List Sec} (h : ∀ s ∈ secs, s.2 ≤ 99) : (secs.map (·.2)).sum ≤ 99 * secs.length := by
  induction secs with
  | nil => simp
  | cons s r ih =>
    have h1 := h s List.mem_cons_self
    have h2 := ih fun z hz => h z (List.mem_cons_of_mem _ hz)
    rw [List.map_cons, List.sum_cons, List.length_cons]
    omega
theorem ksu : ¬ (("_sections" : Str) = "_units") := by decide +kernel
/-- a Road's attributes -/
def rf (t : Addr) (u : Str) : List (Str × V) := putF "_units" (.str u) (putF "_sections" (.ref t) [])
theorem rf_eq (t : Addr) (u : Str) : rf t u = ([("_sections", V.ref t), ("_units", V.str u)] : List (Str × V)) := by
  show (if ("_sections" : Str) = "_units" then [(("_sections" : Str), V.str u)] else (("_sections" : Str), V.ref t) :: putF "_units" (V.str u) []) = ([("_sections", V.ref t), ("_units", V.str u)] : List (Str × V))
  rw [if_neg ksu]
  rfl
theorem rf_sections (t : Addr) (u : Str) : (rf t u).lookup ("_sections" : Str) = some (.ref t) := by
  unfold rf
  rw [lookup_putF, if_neg ksu, lookup_putF, if_pos rfl]
theorem rf_units (t : Addr) (u : Str) : (rf t u).lookup ("_units" : Str) = some (.str u) := by
  unfold rf
  rw [lookup_putF, if_pos rfl]
def RoadAt (C : Addr) (H : Hp) (p : Addr) (secs : List Sec) : Prop := ∃ dx t u, H p = some (.ins C dx (rf t u)) ∧ SecsAt H t secs ∧ u.cps.toList = unitsL secs
theorem RoadAt.ext {C : Addr} {H H' : Hp} {a : Addr} {secs : List Sec} (h : RoadAt C H a secs) (e : ExtN H H') : RoadAt C H' a secs := by
  obtain ⟨dx, t, u, h1, h2, h3⟩ := h
  exact ⟨dx, t, u, ExtN.ins e h1, h2.ext e, h3⟩
/-- what the program asks of the class Road and of the tables of letters -/
structure RoadT (K : PySem.W.Frag) (w : World) (mg : Str → Option Value) (C lp kp : Addr) : Prop where
  cl : Cls K C
  nS : NoAttr K C "_sections"
  nU : NoAttr K C "_units"
  mgC : mg "Road" = some (.ref C)
  mgL : mg "LETTERS" = some (.ref lp)
  mgK : mg "KINDS" = some (.ref kp)
  lN : KDct K w lp "narrow" (.str "n")
  lW : KDct K w lp "wide" (.str "w")
  kN : KDct K w kp "n" (.str "narrow")
  kW : KDct K w kp "w" (.str "wide")
  kM : (kp == sysModules) = false
def letterS (b : Bool) : Str := if b then "w" else "n"
theorem letter_toList (b : Bool) : (letterS b).cps.toList = [letterC b] := by cases b <;> decide +kernel
theorem joinL_nil : ∀ l : List (List Nat), TL.joinL [] l = l.flatten
  | [] => rfl
  | [p] => by simp [TL.joinL]
  | p :: q :: r => by
    have := joinL_nil (q :: r)
    simp [TL.joinL] at this ⊢
    exact this
theorem join_empty (ys : List Str) : (Txt.join ("" : Str) ys).cps.toList = (ys.map fun y => y.cps.toList).flatten := by
  have h := TL.tl_join ("" : Str) ys
  rw [TL.join_eq]
  have e : TL.tl ("" : Str) = [] := by decide +kernel
  rw [e, joinL_nil] at h
  exact h
section
variable {P : Program} {w : World} {K : PySem.W.Frag} {mg : Str → Option Value} {base : Heap}
theorem str_add_toList (i j : Str) : (i ++ j).cps.toList = i.cps.toList ++ j.cps.toList := by
  show (i.cps ++ j.cps).toList = _
  simp
theorem str_len_toList (i : Str) : i.length = i.cps.toList.length := by simp [Str.length]
theorem ip_addS {X : Cx} : PIp X .Add (fun x y H Q => ∃ i j, x = .str i ∧ y = .str j ∧ i.length + j.length ≤ sizeLine ∧ Q (.str (i ++ j)) H) := fun pins s σ H x y v u Q I rx ry h => iop_add_str pins s σ H x y v u Q I rx ry h
def spUnitsOf : Sp := fun vs H Q _ => ∃ (t : Addr) (secs : List Sec), vs = [.ref t] ∧ SecsAt H t secs ∧ SecsOk secs ∧ ∀ H' u, Same H H' → u.cps.toList = unitsL secs → Q (.str u) H'
def nUnitsOf : List Str := ["sections", "units", "kind", "length"]
theorem scUnitsOf : FnScope nUnitsOf ["sections"] (defScope sUnitsOf) := ⟨rfl, rfl, rfl, by decide +kernel, rfl, by decide +kernel, by decide +kernel⟩
theorem ok_unitsOf {f C lp kp : Addr} {fd : FuncData} (F : Fb K mg "_units_of" sUnitsOf ["sections"] f fd) (R : RoadT K w mg C lp kp) : FnOk P w K mg base CX0 1 f fd ["sections"] spUnitsOf := by
  refine F.fn.ok scUnitsOf (fun vs H Q E h => ?_) (fun cdv A outer s H vs Q E hr h => ?_)
  · obtain ⟨t, secs, rfl, _⟩ := h
    rfl
  · obtain ⟨t, secs, rfl, ⟨ts, ht, hlen, hsec⟩, S, k⟩ := h
    have nd := scUnitsOf.nd
    refine ⟨_, pss_cons (ps_set (i := 1) nd rfl (.inl rfl) pe_str)
      (pss_cons (ps_for PassesOwn.never rfl (pi_tup (pv 0)) (pg_tup rfl (pgs_cons (pg_name (i := 2) nd rfl (.inl rfl)) (pgs_cons (pg_name (i := 3) nd rfl (.inl rfl)) pgs_nil)))
        (pss_one (ps_aug (i := 1) nd rfl (.inl rfl) (pe_op op_repS (pe_ix (r := rIxD K w) ix_kdict (pe_glob (v := .ref lp) (by rfl) R.mgL rfl) (pv 2) (fun _ _ => rfl)) (pv 3)) ip_addS)))
      (pss_one (ps_ret (pv 1)))), ?_⟩
    have hts : (ts.map V.ref).length = secs.length := by rw [List.length_map, hlen]
    refine ⟨_, rfl, t, rfl, ⟨_, SqT.of ht⟩, for_it walk_tup (fun i σ H1 => ∃ u v2 v3, σ = [some (.ref t), some (.str u), v2, v3] ∧ Same H H1 ∧ u.cps.toList = unitsL (secs.take i))
      ⟨("" : Str), none, none, rfl, Same.refl H, by rw [List.take_zero]; decide +kernel⟩ (fun i σ H1 _ ⟨_, _, _, _, s1, _⟩ => SqT.of (s1 _ _ ht)) ?_ ?_⟩
    · rintro i y σ H1 H2 hi ⟨u, v2, v3, rfl, s1, eu⟩ ⟨e, hy⟩
      subst e
      have hic : i < secs.length := by rw [hts] at hi; exact hi
      obtain ⟨tt, htt, rfl⟩ : ∃ t, ts[i]? = some t ∧ y = V.ref t := by
        rw [List.getElem?_map] at hy
        obtain ⟨t, z1, z2⟩ := Option.map_eq_some_iff.mp hy
        exact ⟨t, z1, z2.symm⟩
      have hc : secs[i]? = some secs[i] := List.getElem?_eq_getElem hic
      have hct := s1 _ _ (hsec i tt _ htt hc)
      have c0 := S.len _ (List.getElem_mem hic)
      have hlk : KDct K w lp (kindS secs[i].1) (.str (letterS secs[i].1)) := by
        cases secs[i].1
        · exact R.lN
        · exact R.lW
      have hl1 : (letterS secs[i].1).length = 1 := by cases secs[i].1 <;> decide +kernel
      refine ⟨tt, _, rfl, SqT.of hct, rfl, _, _, rfl, _, _, rfl, rfl, ?_⟩
      refine ⟨_, rfl, _, rfl, lp, _, _, rfl, rfl, hlk, _, rfl, letterS secs[i].1, secs[i].2, rfl, rfl, c0.1, by omega, by rw [hl1]; omega, fun u2 hu2 => ?_⟩
      rw [letter_toList] at hu2
      have e2 : u2.cps.toList = List.replicate secs[i].2 (letterC secs[i].1) := by rw [hu2]; simp
      have hsz : u.length + u2.length ≤ sizeLine := by
        rw [str_len_toList, str_len_toList, eu, e2, List.length_replicate, unitsL_len]
        have h1 := sum_le (secs := secs.take i) fun s hs => (S.len s (List.mem_of_mem_take hs)).2
        have h2 : (secs.take i).length ≤ secs.length := by rw [List.length_take]; omega
        have h3 := S.few
        have h4 := c0.2
        exact Nat.le_trans (by omega : _ ≤ 2000) (by decide)
      refine ⟨u, u2, rfl, rfl, hsz, ?_⟩
      refine ⟨u ++ u2, _, _, rfl, s1, ?_⟩
      rw [str_add_toList, eu, e2, tk1 hc, unitsL_snoc]
    · rintro σ H1 ⟨u, v2, v3, rfl, s1, eu⟩
      refine ⟨_, rfl, ?_⟩
      have e9 : secs.take (ts.map V.ref).length = secs := by rw [hts, List.take_length]
      rw [e9] at eu
      exact k H1 u s1 eu
def spRInit0 (C : Addr) : Sp := fun vs H Q _ => ∃ (x dx t : Addr) (secs : List Sec), vs = [.ref x, .ref t] ∧ H x = some (.ins C dx []) ∧ SecsAt H t secs ∧ SecsOk secs ∧
  ∀ H' u, (∀ b o, H b = some o → b ≠ x → H' b = some o) → H' x = some (.ins C dx (rf t u)) → u.cps.toList = unitsL secs → Q .non H'
def nRInit : List Str := ["self", "sections", "index", "section"]
theorem scRInit : FnScope nRInit ["self", "sections"] (defScope sRInit) := ⟨rfl, rfl, rfl, by decide +kernel, rfl, by decide +kernel, by decide +kernel⟩
theorem ok_rInit {f fB fU C lp kp : Addr} {fd dB dU : FuncData} (F : Fun K "__init__" "Road.__init__" sRInit f fd) (M : Mg mg) (R : RoadT K w mg C lp kp) (BB : Fb K mg "_is_section" sIsSection ["value"] fB dB)
    (GB : FnOk P w K mg base CX0 2 fB dB ["value"] spIsSection) (BU : Fb K mg "_units_of" sUnitsOf ["sections"] fU dU) (GU : FnOk P w K mg base CX0 1 fU dU ["sections"] spUnitsOf) :
    FnR P w K mg base CX0 3 f (fun vs H Q E => ∃ ws rest, vs = ws ++ rest ∧ ws.length = (["self"] : List Str).length ∧ rest.length ≤ sizeLine ∧ ∀ p, H p = Option.none → spRInit0 C (ws ++ [V.ref p]) (upd H p (.tup rest)) Q E) := by
  obtain ⟨t1, M1⟩ := M.mostSections
  obtain ⟨oc, od, kV, doc, pm, an, cdv, ct, osl, rfl, lk, hcd⟩ := F.ex
  refine StX.fn_star lk hcd scRInit StX.cxUp_none (StX.bind_star1 (p1 := "self") (pv := "sections") (B := fun xs => bindArgs (PySem.W.fnOf "__init__" "Road.__init__" (defArgs sRInit) (defBody sRInit) (defScope sRInit) .none kV doc pm an cdv ct) ⟨xs, []⟩) (fun _ => rfl) (fun _ _ _ => rfl)) fun A outer s H vs Q E hr h => ?_
  obtain ⟨x, dx, t, secs, rfl, hx, ⟨ts, ht, hlen, hsec⟩, S, k⟩ := h
  have nd := scRInit.nd
  have hr1 : Room 1 (A.deeper (PyProof.Rows.envOfC "Road.__init__" (defScope sRInit) s.heap.objs.size f cdv)) := hr.mono (by decide)
  refine ⟨_, PSs.nox (pss_cons (ps_if (pt_not (pt_truth (pv 1) (by intro _; rfl))) (pss_one ps_never) pss_nil)
    (pss_cons (ps_for PassesOwn.never rfl (pi_enumT (by rfl) M.enumerate (pa_cons (pv 1) pa_nil)) (pg_tup rfl (pgs_cons (pg_name (i := 2) nd rfl (.inl rfl)) (pgs_cons (pg_name (i := 3) nd rfl (.inl rfl)) pgs_nil)))
      (pss_one (ps_if (PW.pt (pw_or (pt_cmpR op_eq (pv 2) (pe_glob (v := .int 12) (by rfl) M1 ⟨_, rfl⟩) (nomark _)) (pw_or1 (pt_not (pt_val (pe_call GB hr (by rfl) BB.at_ BB.fn.kp BB.bd .nil pass0 (pa_cons (pv 3) pa_nil))))))) (pss_one ps_never) pss_nil)))
    (pss_cons (ps_fld (pv 0) (pv 1) rfl)
    (pss_one (ps_fld (pv 0) (pe_call GU hr1 (by rfl) BU.at_ BU.fn.kp BU.bd .nil pass0 (pa_cons (pv 1) pa_nil)) rfl))))), ?_⟩
  have hts : (ts.map V.ref).length = secs.length := by rw [List.length_map, hlen]
  have hne : (ts.map V.ref).isEmpty = false := by
    cases ts with
    | nil =>
      exfalso
      exact S.ne (List.length_eq_zero_iff.mp hlen.symm)
    | cons _ _ => rfl
  refine ⟨_, rfl, true, .inr (.inl ⟨_, SqT.of ht, by rw [hne]; rfl⟩), iteF ?_⟩
  refine ⟨_, rfl, t, ts.map V.ref, rfl, SqT.of ht, for_it walk_enumT
    (fun i σ H1 => ∃ v2 v3, σ = [some (.ref x), some (.ref t), v2, v3] ∧ Same H H1)
    ⟨none, none, rfl, Same.refl H⟩ (fun i σ H1 _ ⟨_, _, _, s1⟩ => SqT.of (s1 _ _ ht)) ?_ ?_⟩
  · rintro i y σ H1 H2 hi ⟨v2, v3, rfl, s1⟩ ⟨T, x1, x2, rfl, hT, rfl, e1, e2⟩
    cases e1
    have hic : i < secs.length := by rw [hts] at hi; exact hi
    have e2 : (ts.map V.ref)[i]? = some x2 := e2
    obtain ⟨tt, htt, rfl⟩ : ∃ t, ts[i]? = some t ∧ x2 = V.ref t := by
      rw [List.getElem?_map] at e2
      obtain ⟨t, z1, z2⟩ := Option.map_eq_some_iff.mp e2
      exact ⟨t, z1, z2.symm⟩
    have hc : secs[i]? = some secs[i] := List.getElem?_eq_getElem hic
    have hct := hsec i tt _ htt hc
    have sT : Same H1 (upd H1 T (.tup [.int (i : Nat), .ref tt])) := fun b o e => by rw [upd_ne (ne_of_none e hT)]; exact e
    have c0 := S.len _ (List.getElem_mem hic)
    refine ⟨T, _, rfl, SqT.of upd_same, rfl, _, _, rfl, _, _, rfl, rfl, ?_⟩
    refine ⟨_, rfl, rfl, _, rfl, ?_⟩
    have ne12 : ¬ (V.int (i : Nat) = V.int 12) := fun z => by
      injection z with z
      have := S.few
      omega
    rw [decide_eq_false ne12]
    refine iteF ?_
    refine ⟨_, rfl, tt, secs[i], rfl, sT _ _ (s1 _ _ hct), c0.1, c0.2, fun H3 s3 => ⟨true, rfl, iteF ?_⟩⟩
    exact ⟨_, _, rfl, s1.trans (sT.trans s3)⟩
  · rintro σ H1 ⟨v2, v3, rfl, s1⟩
    have hx1 := s1 _ _ hx
    have ht1 := s1 _ _ ht
    have nxt : t ≠ x := ne_of ht1 hx1 (by intro z; cases z)
    refine ⟨_, rfl, _, rfl, x, C, dx, _, rfl, hx1, R.cl, R.nS, (by show 0 < 1000; decide), ?_⟩
    have sx : ∀ b o, H b = some o → b ≠ x → upd H1 x (.ins C dx (putF "_sections" (.ref t) [])) b = some o := fun b o e n => by rw [upd_ne n]; exact s1 b o e
    have hs2 : SecsAt (upd H1 x (.ins C dx (putF "_sections" (.ref t) []))) t secs := by
      refine ⟨ts, by rw [upd_ne nxt]; exact ht1, hlen, fun i a s e1 e2 => ?_⟩
      have h1 := s1 _ _ (hsec i a s e1 e2)
      rw [upd_ne (ne_of h1 hx1 (by intro z; cases z))]
      exact h1
    refine ⟨_, rfl, t, secs, rfl, hs2, S, fun H2 u k2 eU => ?_⟩
    have hx2 := k2 x _ upd_same
    refine ⟨_, rfl, x, C, dx, _, rfl, hx2, R.cl, R.nU, (by show 1 < 1000; decide), ?_⟩
    exact k _ _ (fun b o e n => by rw [upd_ne n]; exact k2 b o (sx b o e n)) upd_same eU
end
end Sl

/-! Runs of units: the longest runs of a list of Booleans. -/
namespace Sl
def rstep (acc : List (Bool × Nat)) (b : Bool) : List (Bool × Nat) := match acc.getLast? with
  | none => [(b, 1)]
  | some (k, n) => if k = b then acc.dropLast ++ [(k, n + 1)] else acc ++ [(b, 1)]
def runsOf (l : List Bool) : List (Bool × Nat) := l.foldl rstep []
theorem runsOf_snoc (l : List Bool) (b : Bool) : runsOf (l ++ [b]) = rstep (runsOf l) b := by
  unfold runsOf
  rw [List.foldl_append]
  rfl
theorem rstep_len (acc : List (Bool × Nat)) (b : Bool) : (rstep acc b).length ≤ acc.length + 1 := by
  unfold rstep
  split
  · simp
  · split
    · simp [List.length_dropLast]
    · simp
theorem runs_fold_len : ∀ (l : List Bool) (acc : List (Bool × Nat)), (l.foldl rstep acc).length ≤ acc.length + l.length
  | [], _ => by simp
  | b :: r, acc => by
    have h1 := runs_fold_len r (rstep acc b)
    have h2 := rstep_len acc b
    rw [List.foldl_cons, List.length_cons]
    omega
theorem runsOf_len (l : List Bool) : (runsOf l).length ≤ l.length := by
  have := runs_fold_len l []
  simpa [runsOf] using this
end Sl

set_option Elab.async false
set_option linter.all false
set_option maxRecDepth 100000
set_option maxHeartbeats 1000000
namespace Sl
open PySem PySem.Spec L2 OwnR LamX
section
variable {P : Program} {w : World} {K : PySem.W.Frag} {mg : Str → Option Value} {base : Heap}
/-! ### the property sections, len(road) -/
theorem scRSections : FnScope ["self"] ["self"] (defScope sRSections) := ⟨rfl, rfl, rfl, by decide +kernel, rfl, by decide +kernel, by decide +kernel⟩
theorem ok_rSections {f C lp kp : Addr} {fd : FuncData} (F : Fun K "sections" "Road.sections" sRSections f fd) (R : RoadT K w mg C lp kp) : FnOk P w K mg base CX0 1 f fd ["self"] (getSp C "_sections") := by
  obtain ⟨oc, od, kV, doc, pm, an, cdv, ct, osl, rfl, lk, hcd⟩ := F.ex
  exact fn_getter lk hcd scRSections rfl rfl R.cl R.nS
def spRLen (C : Addr) : Sp := fun vs H Q _ => ∃ (p : Addr) (secs : List Sec), vs = [.ref p] ∧ RoadAt C H p secs ∧ SecsOk secs ∧ Q (.int ((unitsL secs).length : Nat)) H
theorem scRLen : FnScope ["self"] ["self"] (defScope sRLen) := ⟨rfl, rfl, rfl, by decide +kernel, rfl, by decide +kernel, by decide +kernel⟩
theorem ok_rLen {f C lp kp : Addr} {fd : FuncData} (F : Fun K "__len__" "Road.__len__" sRLen f fd) (M : Mg mg) (R : RoadT K w mg C lp kp) : FnOk P w K mg base CX0 1 f fd ["self"] (spRLen C) := by
  refine F.ok scRLen (fun vs H Q E h => ?_) (fun cdv A outer s H vs Q E hr h => ?_)
  · obtain ⟨p, secs, rfl, _⟩ := h
    rfl
  · obtain ⟨p, secs, rfl, ⟨dx, t, u, hp, hs, hu⟩, S, k⟩ := h
    refine ⟨_, pss_one (ps_ret (pe_callB call_len_str (by rfl) M.len boot_len (pa_cons (pe_fld (pv 0) rfl) pa_nil))), ?_⟩
    have el : u.length = (unitsL secs).length := by rw [← hu]; simp [Str.length]
    have hz : u.length ≤ sizeLine := by
      rw [el, unitsL_len]
      have := sum_le fun s hs => (S.len s hs).2
      have := S.few
      exact Nat.le_trans (by omega : (secs.map (·.2)).sum ≤ 2000) (by decide)
    refine ⟨_, rfl, p, C, dx, _, _, rfl, hp, R.cl, R.nU, rf_units _ _, u, rfl, hz, ?_⟩
    rw [el]
    exact k
/-! ### _runs -/
def RunsAt (H : Hp) (a : Addr) (secs : List Sec) : Prop := ∃ ts : List Addr, H a = some (.lst (ts.map V.ref)) ∧ ts.length = secs.length ∧ ∀ (i : Nat) (t : Addr) (s : Sec), ts[i]? = some t → secs[i]? = some s → H t = some (.tup (secV s))
theorem letterS_eq (b : Bool) : (⟨#[letterC b]⟩ : Str) = letterS b := by cases b <;> decide +kernel
theorem letterS_inj (a b : Bool) : decide (V.str (letterS a) = V.str (letterS b)) = decide (a = b) := by cases a <;> cases b <;> decide +kernel
theorem snoc_of {α : Type} {l : List α} {m : Nat} (h : l.length = m + 1) : ∃ r x, l = r ++ [x] ∧ r.length = m := by
  have hne : l ≠ [] := fun z => by rw [z] at h; simp at h
  refine ⟨l.dropLast, l.getLast hne, (List.dropLast_concat_getLast hne).symm, ?_⟩
  rw [List.length_dropLast, h]
  rfl
structure RunsI (H H1 : Hp) (L : Addr) (acc : List Sec) (as : List Addr) : Prop where
  at_ : H1 L = some (.lst (as.map V.ref))
  len : as.length = acc.length
  nd : as.Nodup
  new : ∀ a ∈ as, H a = none ∧ a ≠ L
  it : ∀ (j : Nat) (a : Addr) (s : Sec), as[j]? = some a → acc[j]? = some s → H1 a = some (.lst [.str (letterS s.1), .int (s.2 : Nat)])
theorem RunsI.more {H H1 : Hp} {L : Addr} {acc : List Sec} {as : List Addr} (h : RunsI H H1 L acc as) (s1 : Same H H1) (hL : H L = none) {a : Addr} (ha : H1 a = none) (b : Bool) :
    RunsI H (upd (upd H1 a (.lst [.str (letterS b), .int 1])) L (.lst (as.map V.ref ++ [.ref a]))) L (acc ++ [(b, 1)]) (as ++ [a]) := by
  have naL : a ≠ L := fun z => by rw [z, h.at_] at ha; cases ha
  have nas : a ∉ as := fun z => by
    obtain ⟨j, hj⟩ := List.mem_iff_getElem?.mp z
    have hj2 : j < acc.length := by
      have := (List.getElem?_eq_some_iff.mp hj).1
      rw [← h.len]
      exact this
    have := h.it j a _ hj (List.getElem?_eq_getElem hj2)
    rw [ha] at this
    cases this
  refine ⟨by rw [upd_same, List.map_append]; rfl, by rw [List.length_append, List.length_append, h.len]; rfl, ?_, fun c hc => ?_, fun j c s e1 e2 => ?_⟩
  · rw [List.nodup_append]
    refine ⟨h.nd, by simp, fun x hx y hy => ?_⟩
    rw [List.mem_singleton.mp hy]
    exact fun z => nas (z ▸ hx)
  · rcases List.mem_append.mp hc with hc | hc
    · exact h.new c hc
    · rw [List.mem_singleton.mp hc]
      refine ⟨?_, naL⟩
      cases q : H a with
      | none => rfl
      | some o =>
        rw [s1 _ _ q] at ha
        cases ha
  · rcases Nat.lt_or_ge j as.length with lt | ge
    · rw [List.getElem?_append_left lt] at e1
      rw [List.getElem?_append_left (by rw [← h.len]; exact lt)] at e2
      have hc := List.mem_of_getElem? e1
      rw [upd_ne (h.new c hc).2, upd_ne (fun (z : c = a) => nas (by rw [← z]; exact hc))]
      exact h.it j c s e1 e2
    · rw [List.getElem?_append_right ge] at e1
      rw [List.getElem?_append_right (by rw [← h.len]; exact ge), ← h.len] at e2
      have e0 : j - as.length = 0 := by
        have := (List.getElem?_eq_some_iff.mp e1).1
        simp at this
        omega
      rw [e0] at e1 e2
      have e1 : a = c := by simpa using e1
      have e2 : (b, 1) = s := by simpa using e2
      subst e1 e2
      rw [upd_ne naL, upd_same]
      rfl
theorem RunsI.bump {H H1 : Hp} {L : Addr} {acc : List Sec} {as : List Addr} {k : Bool} {n : Nat} {a : Addr} (h : RunsI H H1 L (acc ++ [(k, n)]) (as ++ [a])) :
    RunsI H (upd H1 a (.lst [.str (letterS k), .int ((n : Nat) + 1)])) L (acc ++ [(k, n + 1)]) (as ++ [a]) := by
  have hl := h.len
  rw [List.length_append, List.length_append] at hl
  have hl : as.length = acc.length := by simpa using hl
  have na := h.new a (by simp)
  have nas : a ∉ as := fun z => by
    have := (List.nodup_append.mp h.nd).2.2 a z a (by simp)
    exact this rfl
  refine ⟨by rw [upd_ne na.2.symm]; exact h.at_, by simp [hl], h.nd, h.new, fun j c s e1 e2 => ?_⟩
  rcases Nat.lt_or_ge j as.length with lt | ge
  · rw [List.getElem?_append_left (by rw [← hl]; exact lt)] at e2
    have e1' := e1
    rw [List.getElem?_append_left lt] at e1'
    rw [upd_ne (fun (z : c = a) => nas (by rw [← z]; exact List.mem_of_getElem? e1'))]
    exact h.it j c s e1 (by rw [List.getElem?_append_left (by rw [← hl]; exact lt)]; exact e2)
  · rw [List.getElem?_append_right ge] at e1
    rw [List.getElem?_append_right (by rw [← hl]; exact ge), ← hl] at e2
    have e0 : j - as.length = 0 := by
      have := (List.getElem?_eq_some_iff.mp e1).1
      simp at this
      omega
    rw [e0] at e1 e2
    have e1 : a = c := by simpa using e1
    have e2 : (k, n + 1) = s := by simpa using e2
    subst e1 e2
    rw [upd_same]
    rfl
end
end Sl

set_option Elab.async false
set_option linter.all false
set_option maxRecDepth 100000
set_option maxHeartbeats 1000000
namespace Sl
open PySem PySem.Spec L2 OwnR LamX
abbrev spRInit (C : Addr) : Sp := fun vs H Q E => ∃ ws rest, vs = ws ++ rest ∧ ws.length = (["self"] : List Str).length ∧ rest.length ≤ sizeLine ∧ ∀ p, H p = Option.none → spRInit0 C (ws ++ [V.ref p]) (upd H p (.tup rest)) Q E
end Sl

/-! Driving, place by place. -/
namespace Sl
open OwnR
section
variable {N : Type} [DecidableEq N]
/-- the cars at a place: their order, their ticks -/
structure Pl (N : Type) where
  ord : List N
  tk : N → Int
def freeP (pace : N → Int) (p : Pl N) (len : Nat) (n : N) : Int := p.tk n + pace n * (len : Int)
def stepP (pace : N → Int) (p : Pl N) (s : Bool × Nat) : Pl N :=
  if s.1 then ⟨sortBy (freeP pace p s.2) p.ord, freeP pace p s.2⟩ else ⟨p.ord, tickOf (foll (freeP pace p s.2) p.ord)⟩
def leadP (pace : N → Int) (p : Pl N) (s : Bool × Nat) (n : N) : Option N := if s.1 then none else leadOf (foll (freeP pace p s.2) p.ord) n
def plc (pace : N → Int) (p0 : Pl N) (secs : List (Bool × Nat)) (k : Nat) : Pl N := (secs.take k).foldl (stepP pace) p0
theorem plc_zero (pace : N → Int) (p0 : Pl N) (secs : List (Bool × Nat)) : plc pace p0 secs 0 = p0 := rfl
theorem plc_succ (pace : N → Int) (p0 : Pl N) (secs : List (Bool × Nat)) {k : Nat} {s : Bool × Nat} (h : secs[k]? = some s) : plc pace p0 secs (k + 1) = stepP pace (plc pace p0 secs k) s := by
  unfold plc
  rw [List.take_add_one, h, List.foldl_append]
  rfl
/-- the leader in the section k -/
def ldr (pace : N → Int) (p0 : Pl N) (secs : List (Bool × Nat)) (k : Nat) (n : N) : Option N := match secs[k]? with
  | none => none
  | some s => leadP pace (plc pace p0 secs k) s n
theorem stepP_perm (pace : N → Int) (p : Pl N) (s : Bool × Nat) : (stepP pace p s).ord.Perm p.ord := by
  unfold stepP
  split
  · exact sortBy_perm _ _
  · exact List.Perm.refl _
theorem fold_perm (pace : N → Int) : ∀ (l : List (Bool × Nat)) (p : Pl N), (l.foldl (stepP pace) p).ord.Perm p.ord
  | [], _ => List.Perm.refl _
  | s :: r, p => (fold_perm pace r (stepP pace p s)).trans (stepP_perm pace p s)
theorem plc_perm (pace : N → Int) (p0 : Pl N) (secs : List (Bool × Nat)) (k : Nat) : (plc pace p0 secs k).ord.Perm p0.ord := fold_perm pace _ p0
end
end Sl

set_option Elab.async false
set_option linter.all false
set_option maxRecDepth 100000
set_option maxHeartbeats 1000000
namespace Sl
open PySem PySem.Spec L2 OwnR LamX
/-! ### a Drive's attributes -/
theorem k_ps : ¬ (("_paces" : Str) = "_sections") := by decide +kernel
theorem k_ts : ¬ (("_ticks" : Str) = "_sections") := by decide +kernel
theorem k_tp : ¬ (("_ticks" : Str) = "_paces") := by decide +kernel
theorem k_os : ¬ (("_orders" : Str) = "_sections") := by decide +kernel
theorem k_op : ¬ (("_orders" : Str) = "_paces") := by decide +kernel
theorem k_ot : ¬ (("_orders" : Str) = "_ticks") := by decide +kernel
theorem k_ls : ¬ (("_leaders" : Str) = "_sections") := by decide +kernel
theorem k_lp : ¬ (("_leaders" : Str) = "_paces") := by decide +kernel
theorem k_lt : ¬ (("_leaders" : Str) = "_ticks") := by decide +kernel
theorem k_lo : ¬ (("_leaders" : Str) = "_orders") := by decide +kernel
def df1 (sc : Addr) : List (Str × V) := putF "_sections" (.ref sc) []
def df2 (sc pd : Addr) : List (Str × V) := putF "_paces" (.ref pd) (df1 sc)
def df3 (sc pd lt : Addr) : List (Str × V) := putF "_ticks" (.ref lt) (df2 sc pd)
def df4 (sc pd lt lo : Addr) : List (Str × V) := putF "_orders" (.ref lo) (df3 sc pd lt)
def df5 (sc pd lt lo ll : Addr) : List (Str × V) := putF "_leaders" (.ref ll) (df4 sc pd lt lo)
section
variable (sc pd lt lo ll : Addr)
theorem df2_paces : (df2 sc pd).lookup ("_paces" : Str) = some (.ref pd) := by unfold df2; rw [lookup_putF, if_pos rfl]
theorem df3_ticks : (df3 sc pd lt).lookup ("_ticks" : Str) = some (.ref lt) := by unfold df3; rw [lookup_putF, if_pos rfl]
theorem df3_paces : (df3 sc pd lt).lookup ("_paces" : Str) = some (.ref pd) := by unfold df3; rw [lookup_putF, if_neg (Ne.symm k_tp)]; exact df2_paces sc pd
theorem df5_sections : (df5 sc pd lt lo ll).lookup ("_sections" : Str) = some (.ref sc) := by
  unfold df5 df4 df3 df2 df1
  rw [lookup_putF, if_neg (Ne.symm k_ls), lookup_putF, if_neg (Ne.symm k_os), lookup_putF, if_neg (Ne.symm k_ts), lookup_putF, if_neg (Ne.symm k_ps), lookup_putF, if_pos rfl]
theorem df5_paces : (df5 sc pd lt lo ll).lookup ("_paces" : Str) = some (.ref pd) := by
  unfold df5 df4
  rw [lookup_putF, if_neg (Ne.symm k_lp), lookup_putF, if_neg (Ne.symm k_op)]
  exact df3_paces sc pd lt
theorem df5_ticks : (df5 sc pd lt lo ll).lookup ("_ticks" : Str) = some (.ref lt) := by
  unfold df5 df4
  rw [lookup_putF, if_neg (Ne.symm k_lt), lookup_putF, if_neg (Ne.symm k_ot)]
  exact df3_ticks sc pd lt
theorem df5_orders : (df5 sc pd lt lo ll).lookup ("_orders" : Str) = some (.ref lo) := by
  unfold df5 df4
  rw [lookup_putF, if_neg (Ne.symm k_lo), lookup_putF, if_pos rfl]
theorem df5_leaders : (df5 sc pd lt lo ll).lookup ("_leaders" : Str) = some (.ref ll) := by
  unfold df5
  rw [lookup_putF, if_pos rfl]
theorem df5_no {m : Str} (h1 : ¬ m = "_sections") (h2 : ¬ m = "_paces") (h3 : ¬ m = "_ticks") (h4 : ¬ m = "_orders") (h5 : ¬ m = "_leaders") : (df5 sc pd lt lo ll).lookup m = none := by
  unfold df5 df4 df3 df2 df1
  rw [lookup_putF, if_neg h5, lookup_putF, if_neg h4, lookup_putF, if_neg h3, lookup_putF, if_neg h2, lookup_putF, if_neg h1]
  rfl
theorem df1_len : (df1 sc).length = 1 := rfl
theorem putF_len (f : Str) (v : V) : ∀ l : List (Str × V), (putF f v l).length ≤ l.length + 1
  | [] => by simp [putF]
  | (g, x) :: r => by
    unfold putF
    split
    · simp
    · have := putF_len f v r
      simp
      omega
end
/-! ### cars as functions of their names -/
def names (cars : List Car) : List Str := cars.map (·.name)
def paceOf (cars : List Car) (n : Str) : Int := ((cars.find? fun c => decide (c.name = n)).map (·.pace)).getD 0
def startOf (cars : List Car) (n : Str) : Int := ((cars.find? fun c => decide (c.name = n)).map (·.start)).getD 0
def pl0 (cars : List Car) : Pl Str := ⟨sortBy (startOf cars) (names cars), startOf cars⟩
abbrev plcC (secs : List Sec) (cars : List Car) (k : Nat) : Pl Str := plc (paceOf cars) (pl0 cars) secs k
abbrev ldrC (secs : List Sec) (cars : List Car) (k : Nat) (n : Str) : Option Str := ldr (paceOf cars) (pl0 cars) secs k n
theorem find_car {cars : List Car} (nd : (names cars).Nodup) {c : Car} (h : c ∈ cars) : cars.find? (fun d => decide (d.name = c.name)) = some c := by
  induction cars with
  | nil => cases h
  | cons a l ih =>
    unfold names at nd
    rw [List.map_cons, List.nodup_cons] at nd
    rcases List.mem_cons.mp h with e | h
    · subst e
      simp
    · have hne : ¬ a.name = c.name := fun z => nd.1 (by rw [z]; exact List.mem_map.mpr ⟨c, h, rfl⟩)
      rw [List.find?_cons, decide_eq_false hne]
      exact ih nd.2 h
theorem paceOf_car {cars : List Car} (nd : (names cars).Nodup) {c : Car} (h : c ∈ cars) : paceOf cars c.name = c.pace := by
  unfold paceOf
  rw [find_car nd h]
  rfl
theorem startOf_car {cars : List Car} (nd : (names cars).Nodup) {c : Car} (h : c ∈ cars) : startOf cars c.name = c.start := by
  unfold startOf
  rw [find_car nd h]
  rfl
theorem pl0_perm (cars : List Car) : (pl0 cars).ord.Perm (names cars) := sortBy_perm _ _
theorem plcC_perm (secs : List Sec) (cars : List Car) (k : Nat) : (plcC secs cars k).ord.Perm (names cars) := (plc_perm _ _ _ _).trans (pl0_perm cars)
/-- the dict of the paces -/
def paceK (cars : List Car) : List (Key × V) := cars.map fun c => (Sum.inr c.name, V.int c.pace)
theorem valV_names {g : Car → V} {cars : List Car} (nd : (names cars).Nodup) {c : Car} (h : c ∈ cars) : valV (cars.map fun c => ((Sum.inr c.name : Key), g c)) (Sum.inr c.name : Key) = some (g c) := by
  induction cars with
  | nil => cases h
  | cons a l ih =>
    unfold names at nd
    rw [List.map_cons, List.nodup_cons] at nd
    rcases List.mem_cons.mp h with e | h
    · subst e
      exact valV_pos rfl
    · have hne : ¬ (Sum.inr a.name : Key) = Sum.inr c.name := fun z => nd.1 (by rw [Sum.inr.inj z]; exact List.mem_map.mpr ⟨c, h, rfl⟩)
      rw [List.map_cons, valV_neg hne]
      exact ih nd.2 h
theorem paceK_get {cars : List Car} (nd : (names cars).Nodup) {n : Str} (h : n ∈ names cars) : valV (paceK cars) (Sum.inr n : Key) = some (.int (paceOf cars n)) := by
  obtain ⟨c, hc, rfl⟩ := List.mem_map.mp h
  rw [paceOf_car nd hc]
  exact valV_names (g := fun c => V.int c.pace) nd hc
/-! ### a Drive of which m sections are driven -/
structure DW where
  dx : Addr
  sc : Addr
  pd : Addr
  lt : Addr
  lo : Addr
  ll : Addr
  tds : List Addr
  ods : List Addr
  lds : List Addr
structure DP (C : Addr) (H0 H : Hp) (p : Addr) (secs : List Sec) (cars : List Car) (m : Nat) (W : DW) : Prop where
  ext : ExtN H0 H
  ins : H p = some (.ins C W.dx (df5 W.sc W.pd W.lt W.lo W.ll))
  sec : SecsAt H W.sc secs
  pac : H W.pd = some (.dK (paceK cars))
  lt : H W.lt = some (.lst (W.tds.map V.ref))
  ltl : W.tds.length = m + 1
  lo : H W.lo = some (.lst (W.ods.map V.ref))
  lol : W.ods.length = m + 1
  ll : H W.ll = some (.lst (W.lds.map V.ref))
  lll : W.lds.length = m
  tk : ∀ (k : Nat) (d : Addr), W.tds[k]? = some d → ∃ kv, H d = some (.dK kv) ∧ ∀ n ∈ names cars, valV kv (Sum.inr n : Key) = some (.int ((plcC secs cars k).tk n))
  od : ∀ (k : Nat) (d : Addr), W.ods[k]? = some d → H d = some (.lst ((plcC secs cars k).ord.map V.str))
  ld : ∀ (k : Nat) (d : Addr), W.lds[k]? = some d → ∃ kv, H d = some (.dK kv) ∧ ∀ n, valV kv (Sum.inr n : Key) = (ldrC secs cars k n).map V.str
  newp : New H0 p
  newt : New H0 W.lt
  newo : New H0 W.lo
  newl : New H0 W.ll
  nto : W.lt ≠ W.lo
  ntl : W.lt ≠ W.ll
  nol : W.lo ≠ W.ll
  odn : ∀ d ∈ W.ods, d ≠ W.lt ∧ d ≠ W.lo ∧ d ≠ W.ll
theorem DP.step {C : Addr} {H0 H H' : Hp} {p : Addr} {secs : List Sec} {cars : List Car} {m : Nat} {W : DW} (D : DP C H0 H p secs cars m W) (e : ExtN H H') : DP C H0 H' p secs cars m W where
  ext := D.ext.trans e
  ins := ExtN.ins e D.ins
  sec := D.sec.ext e
  pac := ExtN.dK e D.pac
  lt := ExtN.lst e D.lt
  ltl := D.ltl
  lo := ExtN.lst e D.lo
  lol := D.lol
  ll := ExtN.lst e D.ll
  lll := D.lll
  tk := fun k d h => let ⟨kv, a, b⟩ := D.tk k d h; ⟨kv, ExtN.dK e a, b⟩
  od := fun k d h => ExtN.lst e (D.od k d h)
  ld := fun k d h => let ⟨kv, a, b⟩ := D.ld k d h; ⟨kv, ExtN.dK e a, b⟩
  newp := D.newp
  newt := D.newt
  newo := D.newo
  newl := D.newl
  nto := D.nto
  ntl := D.ntl
  nol := D.nol
  odn := D.odn
/-- the lists of a drive of which m sections are driven, wherever they stand -/
structure DL (H0 H : Hp) (secs : List Sec) (cars : List Car) (m : Nat) (W : DW) : Prop where
  ext : ExtN H0 H
  lt : H W.lt = some (.lst (W.tds.map V.ref))
  ltl : W.tds.length = m + 1
  lo : H W.lo = some (.lst (W.ods.map V.ref))
  lol : W.ods.length = m + 1
  ll : H W.ll = some (.lst (W.lds.map V.ref))
  lll : W.lds.length = m
  tk : ∀ (k : Nat) (d : Addr), W.tds[k]? = some d → ∃ kv, H d = some (.dK kv) ∧ ∀ n ∈ names cars, valV kv (Sum.inr n : Key) = some (.int ((plcC secs cars k).tk n))
  od : ∀ (k : Nat) (d : Addr), W.ods[k]? = some d → H d = some (.lst ((plcC secs cars k).ord.map V.str))
  ld : ∀ (k : Nat) (d : Addr), W.lds[k]? = some d → ∃ kv, H d = some (.dK kv) ∧ ∀ n, valV kv (Sum.inr n : Key) = (ldrC secs cars k n).map V.str
  newt : New H0 W.lt
  newo : New H0 W.lo
  newl : New H0 W.ll
  nto : W.lt ≠ W.lo
  ntl : W.lt ≠ W.ll
  nol : W.lo ≠ W.ll
  odn : ∀ d ∈ W.ods, d ≠ W.lt ∧ d ≠ W.lo ∧ d ≠ W.ll
theorem DL.step {H0 H H' : Hp} {secs : List Sec} {cars : List Car} {m : Nat} {W : DW} (D : DL H0 H secs cars m W) (e : ExtN H H') : DL H0 H' secs cars m W where
  ext := D.ext.trans e
  lt := ExtN.lst e D.lt
  ltl := D.ltl
  lo := ExtN.lst e D.lo
  lol := D.lol
  ll := ExtN.lst e D.ll
  lll := D.lll
  tk := fun k d h => let ⟨kv, a, b⟩ := D.tk k d h; ⟨kv, ExtN.dK e a, b⟩
  od := fun k d h => ExtN.lst e (D.od k d h)
  ld := fun k d h => let ⟨kv, a, b⟩ := D.ld k d h; ⟨kv, ExtN.dK e a, b⟩
  newt := D.newt
  newo := D.newo
  newl := D.newl
  nto := D.nto
  ntl := D.ntl
  nol := D.nol
  odn := D.odn
/-- the dict of the starts -/
def startK (cars : List Car) : List (Key × V) := cars.map fun c => (Sum.inr c.name, V.int c.start)
theorem startK_get {cars : List Car} (nd : (names cars).Nodup) {n : Str} (h : n ∈ names cars) : valV (startK cars) (Sum.inr n : Key) = some (.int (startOf cars n)) := by
  obtain ⟨c, hc, rfl⟩ := List.mem_map.mp h
  rw [startOf_car nd hc]
  exact valV_names (g := fun c => V.int c.start) nd hc
theorem startK_keys (cars : List Car) : (startK cars).map (fun kv => kV kv.1) = (names cars).map V.str := by
  unfold startK names
  rw [List.map_map, List.map_map]
  rfl
end Sl

set_option Elab.async false
set_option linter.all false
set_option maxRecDepth 100000
set_option maxHeartbeats 2000000
namespace OwnR
open PySem PySem.Spec PyProof.Rows L2
/-! ### y = {k: v for x in xs} as a statement -/
theorem ps_setDc {X : Cx} {i : Nat} {y : Str} {py : Pos} {kx vx tg iter : Expr} {ifs : List Expr} {scope : Scope} {own : List (Str × Nat)} {pos spos : Pos} {wi : TI} {g : TG} {tt : TT} {tk tv : TE} (hc : X.calm = true) (hN : X.N.Nodup) (hy : X.N[i]? = some y) (hyl : X.env.scope.names.lookup y = some .local)
    (hsw : swapsWith (.DictComp kx vx [⟨tg, iter, ifs, 0⟩] scope pos) (some (.Name y py)) spos.line X.env = pure true) (hi : PI X tg iter wi) (ok : BlkOk X.N X.env.scope scope own)
    (hg : ∀ (s : Shared) (H : Hp) (C : Addr) (cl : List (Str × Addr)) (fp : List Addr), PG (X.blk s H scope (compEnvC scope cl C X.env) fp) tg g)
    (ht : ∀ (s : Shared) (H : Hp) (C : Addr) (cl : List (Str × Addr)) (fp : List Addr), PTs (X.blk s H scope (compEnvC scope cl C X.env) fp) ifs tt)
    (hk : ∀ (s : Shared) (H : Hp) (C : Addr) (cl : List (Str × Addr)) (fp : List Addr), PE (X.blk s H scope (compEnvC scope cl C X.env) fp) kx tk)
    (hv : ∀ (s : Shared) (H : Hp) (C : Addr) (cl : List (Str × Addr)) (fp : List Addr), PE (X.blk s H scope (compEnvC scope cl C X.env) fp) vx tv) (hs : ∀ x, foldedSetIterable iter X.env x = pure x := by intro _; rfl) :
    PS X (.Assign [.Name y py] (.DictComp kx vx [⟨tg, iter, ifs, 0⟩] scope pos) spos) (tAsg (tDc wi g tt tk tv (own.map (·.2))) (gName i)) := by
  refine ⟨fun pins s σ H D I h => ?_⟩
  have h' : tDc wi g tt tk tv (own.map (·.2)) σ H (fun x H1 => gName i x σ H1 D.nx) := h
  rw [exec_Assign_Name_used _ _ _ _ hsw]
  refine wpAny_bind (wpAny_standAt (wpAny_bind ?_))
  show wpAny _ X.A (do let _ ← comprehension (.DictComp kx vx [⟨tg, iter, ifs, 0⟩] scope pos) scope X.env (firstIterPos [⟨tg, iter, ifs, 0⟩] pos) newDict false (eval iter X.env) (some (assign (.Name y py) X.env))) _ _ s
  refine wpAny_bind (thn (dc_core (Qf := fun _ s' => SP X pins D .next s') hc hN I hi ok hg ht hk hv hs h' fun Dn C s' m H' J q hn f => ?_) fun _ s' hq => wpAny_pure (wpAny_pure hq))
  obtain ⟨f0, f1, f2, f3, f4, f5⟩ := f
  show wpAny _ _ (assign (.Name y py) X.env (.ref Dn)) _ _ _
  refine wpAny_assign_Name (store_ok2 (v := V.ref Dn) J hN hy (.inl hyl) rfl (fun s2 J2 ⟨a, sb, ha⟩ => ?_) (.inr hyl))
  have nCa : C ≠ a := ha.elim (fun z => by rw [z]; exact f1) fun z => fun e => f4 y a z e.symm
  exact ⟨m, hn.sameBut sb nCa, fun h3 sb3 => ⟨_, H', J2.turned (t' := s2.toks) (fun b o hb e => (sb3.2 b hb).trans e) f0 f1 f3 f4 f5, q⟩⟩
theorem sw_trueD {kx vx : Expr} {gs : List Comprehension} {scope : Scope} {pos py : Pos} {y : Str} {l : Nat} {env : Env} (hk : env.scope.kind = .function) (hy : env.scope.names.lookup y = some .local) (hl : (py.line == pos.line) = true)
    (ha : (scope.names.any fun (n, k) => n == y && (k == .local || k == .cell)) = false) : swapsWith (.DictComp kx vx gs scope pos) (some (.Name y py)) l env = pure true := by
  have k1 : env.kindOf y = some .local := hy
  have k2 : env.blockKind = .function := by
    unfold Env.blockKind
    rw [hk] <;> rfl
  unfold swapsWith
  simp only [k2, k1, ha, Expr.pos, hl] <;> rfl
end OwnR

set_option Elab.async false
set_option linter.all false
set_option maxRecDepth 100000
set_option maxHeartbeats 2000000
namespace OwnR
open PySem PySem.Spec PyProof.Rows L2
/-! ### a field as a target among others -/
def gFld (K : PySem.W.Frag) (ta : TE) (f : Str) : TG := fun v σ H Q => ta σ H fun x H1 => ∃ a C dx fs, x = .ref a ∧ H1 a = some (.ins C dx fs) ∧ Cls K C ∧ NoAttr K C f ∧ fs.length < 1000 ∧ Q σ (upd H1 a (.ins C dx (putF f v fs)))
theorem pg_fld {X : Cx} {o : Expr} {f : Str} {pos : Pos} {ta : TE} (ha : PE X o ta) : PG X (.Attribute o f pos) (gFld X.K ta f) := by
  refine ⟨fun pins s σ H v u Q I r h => ?_⟩
  rw [assign_Attribute]
  refine wpAny_bind (wpAny_holding (thn (ha.run pins s σ H _ I h) fun ov s1 ⟨x, H1, I1, rx, a, C, dx, fs, ex, ea, c, n, l, q⟩ => ?_))
  subst ex
  obtain rfl : ov = Value.ref a := rx
  refine wpAny_bind (wpAny_standAt (wpAny_bind (wpAny_holding (setattr_ok I1 ea c n l r fun s3 I3 => ?_))))
  exact wpAny_release ⟨σ, _, I3, q⟩
end OwnR

set_option Elab.async false
set_option linter.all false
set_option maxRecDepth 100000
set_option maxHeartbeats 1000000
namespace Sl
open PySem PySem.Spec L2 OwnR LamX
/-- three lists of a Drive, each one longer -/
def upd3 (H : Hp) (W : DW) (td od ld : Addr) : Hp := upd (upd (upd H W.lt (.lst (W.tds.map V.ref ++ [.ref td]))) W.lo (.lst (W.ods.map V.ref ++ [.ref od]))) W.ll (.lst (W.lds.map V.ref ++ [.ref ld]))
def DW.more (W : DW) (td od ld : Addr) : DW := { W with tds := W.tds ++ [td], ods := W.ods ++ [od], lds := W.lds ++ [ld] }
theorem snoc_get {α : Type} {l : List α} {x y : α} {k : Nat} (h : (l ++ [x])[k]? = some y) : l[k]? = some y ∨ (k = l.length ∧ x = y) := by
  rcases Nat.lt_or_ge k l.length with lt | ge
  · rw [List.getElem?_append_left lt] at h
    exact .inl h
  · rw [List.getElem?_append_right ge] at h
    have e0 : k - l.length = 0 := by
      have := (List.getElem?_eq_some_iff.mp h).1
      simp at this
      omega
    rw [e0] at h
    exact .inr ⟨by omega, by simpa using h⟩
theorem DL.push {H0 H : Hp} {secs : List Sec} {cars : List Car} {m : Nat} {W : DW} (D : DL H0 H secs cars m W) {td od ld : Addr} {kt kl : List (Key × V)}
    (h1 : H td = some (.dK kt)) (t1 : ∀ n ∈ names cars, valV kt (Sum.inr n : Key) = some (.int ((plcC secs cars (m + 1)).tk n)))
    (h2 : H od = some (.lst ((plcC secs cars (m + 1)).ord.map V.str))) (o2 : od ≠ W.lt ∧ od ≠ W.lo ∧ od ≠ W.ll)
    (h3 : H ld = some (.dK kl)) (l3 : ∀ n, valV kl (Sum.inr n : Key) = (ldrC secs cars m n).map V.str) : DL H0 (upd3 H W td od ld) secs cars (m + 1) (W.more td od ld) := by
  have old : ∀ b o, H b = some o → b ≠ W.lt → b ≠ W.lo → b ≠ W.ll → upd3 H W td od ld b = some o := fun b o e n1 n2 n3 => by
    unfold upd3
    rw [upd_ne n3, upd_ne n2, upd_ne n1]
    exact e
  have nl : ∀ b o, H b = some o → (∀ xs, o ≠ .lst xs) → upd3 H W td od ld b = some o := fun b o e n =>
    old b o e (ne_of e D.lt (n _)) (ne_of e D.lo (n _)) (ne_of e D.ll (n _))
  refine { D with ext := ?_, lt := ?_, ltl := ?_, lo := ?_, lol := ?_, ll := ?_, lll := ?_, tk := ?_, od := ?_, ld := ?_, odn := ?_ }
  · exact fun b o e n => old b o (D.ext b o e n) (D.newt b o e n) (D.newo b o e n) (D.newl b o e n)
  · show upd3 H W td od ld W.lt = some (.lst ((W.tds ++ [td]).map V.ref))
    unfold upd3
    rw [upd_ne D.ntl, upd_ne D.nto, upd_same, List.map_append]
    rfl
  · show (W.tds ++ [td]).length = _
    rw [List.length_append, D.ltl]
    rfl
  · show upd3 H W td od ld W.lo = some (.lst ((W.ods ++ [od]).map V.ref))
    unfold upd3
    rw [upd_ne D.nol, upd_same, List.map_append]
    rfl
  · show (W.ods ++ [od]).length = _
    rw [List.length_append, D.lol]
    rfl
  · show upd3 H W td od ld W.ll = some (.lst ((W.lds ++ [ld]).map V.ref))
    unfold upd3
    rw [upd_same, List.map_append]
    rfl
  · show (W.lds ++ [ld]).length = _
    rw [List.length_append, D.lll]
    rfl
  · intro k d h
    rcases snoc_get (show (W.tds ++ [td])[k]? = some d from h) with h | ⟨hk, rfl⟩
    · obtain ⟨kv, a, b⟩ := D.tk k d h
      exact ⟨kv, nl _ _ a fun xs z => (nomatch z), b⟩
    · rw [D.ltl] at hk
      subst hk
      exact ⟨kt, nl _ _ h1 fun xs z => (nomatch z), t1⟩
  · intro k d h
    rcases snoc_get (show (W.ods ++ [od])[k]? = some d from h) with h | ⟨hk, rfl⟩
    · have q := D.odn d (List.mem_of_getElem? h)
      exact old _ _ (D.od k d h) q.1 q.2.1 q.2.2
    · rw [D.lol] at hk
      subst hk
      exact old _ _ h2 o2.1 o2.2.1 o2.2.2
  · intro k d h
    rcases snoc_get (show (W.lds ++ [ld])[k]? = some d from h) with h | ⟨hk, rfl⟩
    · obtain ⟨kv, a, b⟩ := D.ld k d h
      exact ⟨kv, nl _ _ a fun xs z => (nomatch z), b⟩
    · rw [D.lll] at hk
      subst hk
      exact ⟨kl, nl _ _ h3 fun xs z => (nomatch z), l3⟩
  · intro d hd
    rcases List.mem_append.mp (show d ∈ W.ods ++ [od] from hd) with hd | hd
    · exact D.odn d hd
    · rw [List.mem_singleton.mp hd]
      exact o2
theorem Tabs.keepL {T : List (Addr × Str)} {H H' : Hp} (t : Tabs T H) (e : ∀ b o, H b = some o → (∀ xs, o ≠ .lst xs) → H' b = some o) : Tabs T H' := fun p hp => by
  obtain ⟨ps, h1, h2, h3⟩ := t p hp
  refine ⟨ps, e _ _ h1 fun xs z => (nomatch z), h2, fun pos cv hc => ?_⟩
  obtain ⟨c, e1, e2⟩ := h3 pos cv hc
  exact ⟨c, e1, e _ _ e2 fun xs z => by unfold CodeO at z; cases z⟩
theorem upd3_keep {H : Hp} {W : DW} {td od ld : Addr} {a b c : List V} (h1 : H W.lt = some (.lst a)) (h2 : H W.lo = some (.lst b)) (h3 : H W.ll = some (.lst c)) : ∀ x o, H x = some o → (∀ xs, o ≠ .lst xs) → upd3 H W td od ld x = some o := fun x o e n => by
  unfold upd3
  rw [upd_ne (ne_of e h3 (n _)), upd_ne (ne_of e h2 (n _)), upd_ne (ne_of e h1 (n _))]
  exact e
theorem lead_map (acc : List (RowT Str)) (n : Str) : ((look acc n).bind fun x => x.2.map V.str) = (leadOf acc n).map V.str := by
  unfold leadOf
  cases look acc n with
  | none => rfl
  | some x => rfl
/-- what the program asks of the class Drive -/
structure DriveT (K : PySem.W.Frag) (mg : Str → Option Value) (C : Addr) : Prop where
  cl : Cls K C
  nS : NoAttr K C "_sections"
  nP : NoAttr K C "_paces"
  nT : NoAttr K C "_ticks"
  nO : NoAttr K C "_orders"
  nL : NoAttr K C "_leaders"
  mgC : mg "Drive" = some (.ref C)
/-- a method of a class, as callers want it -/
structure Fm (K : PySem.W.Frag) (C : Addr) (x qual : Str) (st : Stmt) (ps : List Str) (f : Addr) (fd : FuncData) : Prop where
  fn : Fun K x qual st f fd
  at_ : Meth K C x f
  bd : Binds K fd ps []
section
variable {P : Program} {w : World} {K : PySem.W.Frag} {mg : Str → Option Value} {base : Heap}
def spDriveAll (K : PySem.W.Frag) (T : List (Addr × Str)) : Sp := fun vs H Q _ => ∃ (sc sd pd : Addr) (secs : List Sec) (cars : List Car), vs = [.ref sc, .ref sd, .ref pd] ∧ SecsAt H sc secs ∧ H sd = some (.dK (startK cars)) ∧ H pd = some (.dK (paceK cars)) ∧ SecsOk secs ∧ CarsOk cars ∧ Tabs T H ∧
  ∀ H' t W, DL H H' secs cars secs.length W → H' t = some (.tup [.ref W.lt, .ref W.lo, .ref W.ll]) → New H t → Tabs T H' → Q (.ref t) H'
def nDriveAll : List Str := ["sections", "starts", "paces", "ticks", "orders", "leaders", "kind", "length", "order", "left", "led", "car"]
theorem scDriveAll : FnScope nDriveAll ["sections", "starts", "paces"] (defScope sDriveAll) := ⟨rfl, rfl, rfl, by decide +kernel, rfl, by decide +kernel, by decide +kernel⟩
theorem atI_lst {α : Type} {xs : List α} {m : Nat} {v : α} (hl : xs.length = m + 1) (h : xs[m]? = some v) : atI xs (-1) = some v := by
  obtain ⟨r, x, e, hr⟩ := snoc_of hl
  subst e
  rw [List.getElem?_append_right (by omega), hr] at h
  simp at h
  subst h
  exact atI_last _ _
theorem ok_driveAll {f fO fF c Pt : Addr} {fd dO dF : FuncData} {T : List (Addr × Str)} (F : Fun K "drive_all" "drive_all" sDriveAll f fd) (M : Mg mg)
    (BO : FbC K mg "_in_order" sInOrder ["names", "ticks"] fO dO c) (BF : Fb K mg "_follow" sFollow ["order", "free"] fF dF)
    (GO : FnOk P w K mg base CX0 3 fO dO ["names", "ticks"] (spInOrder K T)) (GF : FnOk P w K mg base CX0 1 fF dF ["order", "free"] (spFollow K)) :
    FnOk P w K mg base CX0 4 f fd ["sections", "starts", "paces"] (spDriveAll K T) := by
  refine F.ok scDriveAll (fun vs H Q E h => ?_) (fun cdv A outer s H vs Q E hr h => ?_)
  · obtain ⟨sc, sd, pd, secs, cars, rfl, _⟩ := h
    rfl
  · obtain ⟨sc, sd, pd, secs, cars, rfl, hS, hsd, hpd, SO, CO, hT, k⟩ := h
    have nd := scDriveAll.nd
    have hu := hu_of hr
    refine ⟨_, pss_cons (ps_set (i := 3) nd rfl (.inr rfl) (pe_lst (pa_cons (pv 1) pa_nil)))
      (pss_cons (ps_set (i := 4) nd rfl (.inl rfl) (pe_lst (pa_cons (pe_call GO hr (by rfl) BO.at_ BO.fn.kp BO.bd .nil pass0 (pa_cons (pe_callTy (call_list_dK rfl) (by rfl) M.list (by decide +kernel) (pa_cons (pv 1) pa_nil)) (pa_cons (pv 1) pa_nil))) pa_nil)))
      (pss_cons (ps_set (i := 5) nd rfl (.inl rfl) (pe_lst pa_nil))
      (pss_cons (ps_for PassesOwn.never rfl (pi_tup (pv 0)) (pg_tup rfl (pgs_cons (pg_name (i := 6) nd rfl (.inl rfl)) (pgs_cons (pg_name (i := 7) nd rfl (.inr rfl)) pgs_nil)))
        (pss_cons (ps_set (i := 8) nd rfl (.inl rfl) (pe_ix ix_list (pv 4) (pe_un un_neg pe_int) (fun _ _ => rfl)))
        (pss_cons (ps_setDc (i := 9) (own := [("car", 11)]) (g := gName 11) (tt := tYes) (tk := tVar 11) (tv := tOp (rI0 fun i j => .int (i + j)) (tDGet (tOp (rIxL K) (tVar 3) (tUn (rU fun i => .int (-i)) (tC (.int 1)))) (tVar 11)) (tOp (rI CMul fun i j => .int (i * j)) (tDGet (tVar 2) (tVar 11)) (tVar 7))) (by rfl) nd rfl rfl (sw_trueD rfl rfl rfl (by decide +kernel)) (pi_list (pv 8)) (blkOk_by (N := nDriveAll) (sc := defScope sDriveAll) (by decide +kernel))
            (fun _ _ _ _ _ => pg_name (i := 11) nd rfl (Or.inl rfl)) (fun _ _ _ _ _ => pts_nil) (fun _ _ _ _ _ => pv 11)
            (fun _ _ _ _ _ => pe_op op_add (pe_dget hu (pe_ix (r := rIxL K) ix_list (pv 3) (pe_un un_neg pe_int) (fun _ _ => rfl)) (pv 11) (fun _ _ => rfl)) (pe_op op_mul (pe_dget hu (pv 2) (pv 11) (fun _ _ => rfl)) (pv 7))))
        (pss_cons (ps_set (i := 10) nd rfl (.inl rfl) pe_dnewK)
        (pss_cons (ps_if (pt_cmpR op_eq (pv 6) pe_str (nomark _))
            (pss_one (ps_set (i := 8) nd rfl (.inl rfl) (pe_call GO hr (by rfl) BO.at_ BO.fn.kp BO.bd .nil pass0 (pa_cons (pv 8) (pa_cons (pv 9) pa_nil)))))
            (pss_one (ps_asg (pe_call GF (hr.mono (by decide)) (by rfl) BF.at_ BF.fn.kp BF.bd .nil pass0 (pa_cons (pv 8) (pa_cons (pv 9) pa_nil))) (pg_tup rfl (pgs_cons (pg_name (i := 9) nd rfl (.inl rfl)) (pgs_cons (pg_name (i := 10) nd rfl (.inl rfl)) pgs_nil))))))
        (pss_cons (ps_expr (pe_bm PySem.F.plainAttrs_list PySem.F.slot_list_append PySem.F.type_list_append mt_append (pv 3) (pa_cons (pv 9) pa_nil)))
        (pss_cons (ps_expr (pe_bm PySem.F.plainAttrs_list PySem.F.slot_list_append PySem.F.type_list_append mt_append (pv 4) (pa_cons (pv 8) pa_nil)))
        (pss_one (ps_expr (pe_bm PySem.F.plainAttrs_list PySem.F.slot_list_append PySem.F.type_list_append mt_append (pv 5) (pa_cons (pv 10) pa_nil)))))))))))
      (pss_one (ps_ret (pe_tup (pa_cons (pv 3) (pa_cons (pv 4) (pa_cons (pv 5) pa_nil))))))))), ?_⟩
    have ndn : (names cars).Nodup := CO.nd
    refine ⟨_, rfl, by show 1 ≤ sizeLine; decide, fun lt hlt => ?_⟩
    have s1 : Same H (upd H lt (.lst [.ref sd])) := fun b o e => by rw [upd_ne (ne_of_none e hlt)]; exact e
    have hlt1 : (upd H lt (.lst [.ref sd])) lt = some (.lst [.ref sd]) := upd_same
    show tSeq _ _ _ _ (upd H lt (.lst [.ref sd]))
    generalize upd H lt (.lst [.ref sd]) = H1 at s1 hlt1 ⊢
    refine ⟨_, rfl, sd, _, rfl, s1 _ _ hsd, fun l hl => ?_⟩
    rw [startK_keys]
    have s2 : Same H1 (upd H1 l (.lst ((names cars).map V.str))) := fun b o e => by rw [upd_ne (ne_of_none e hl)]; exact e
    have hl2 : (upd H1 l (.lst ((names cars).map V.str))) l = some (.lst ((names cars).map V.str)) := upd_same
    have T2 : Tabs T (upd H1 l (.lst ((names cars).map V.str))) := hT.ext (s1.trans s2)
    refine ⟨_, rfl, l, sd, names cars, _, startOf cars, rfl, SqL.of hl2, s2 _ _ (s1 _ _ hsd), fun n hn => startK_get ndn hn, T2, fun H3 Do e3 T3 n3 hDo => ?_⟩
    have hlt3 := ExtN.lst e3 (s2 _ _ hlt1)
    have x3 : ExtN H H3 := (ExtN.same (s1.trans s2)).trans e3
    have nDot : Do ≠ lt := fun z => n3 lt _ (s2 _ _ hlt1) (fun _ y => nomatch y) z.symm
    refine ⟨by show 1 ≤ sizeLine; decide, fun lo hlo => ?_⟩
    have nto : lt ≠ lo := ne_of_none hlt3 hlo
    have nDo : Do ≠ lo := ne_of_none hDo hlo
    have s4 : Same H3 (upd H3 lo (.lst [.ref Do])) := fun b o e => by rw [upd_ne (ne_of_none e hlo)]; exact e
    have hlo4 : (upd H3 lo (.lst [.ref Do])) lo = some (.lst [.ref Do]) := upd_same
    show tSeq _ _ _ _ (upd H3 lo (.lst [.ref Do]))
    generalize upd H3 lo (.lst [.ref Do]) = H4 at s4 hlo4 ⊢
    have x4 : ExtN H H4 := x3.trans (ExtN.same s4)
    refine ⟨Nat.zero_le _, fun ll hll => ?_⟩
    have s5 : Same H4 (upd H4 ll (.lst [])) := fun b o e => by rw [upd_ne (ne_of_none e hll)]; exact e
    have hll5 : (upd H4 ll (.lst [])) ll = some (.lst []) := upd_same
    have hlt4 := s4 _ _ hlt3
    have ntl : lt ≠ ll := ne_of_none hlt4 hll
    have nol : lo ≠ ll := ne_of_none hlo4 hll
    have nDol : Do ≠ ll := ne_of_none (s4 _ _ hDo) hll
    show tSeq _ _ _ _ (upd H4 ll (.lst []))
    generalize upd H4 ll (.lst []) = H5 at s5 hll5 ⊢
    have x5 : ExtN H H5 := x4.trans (ExtN.same s5)
    have D0 : DL H H5 secs cars 0 ⟨sc, sc, pd, lt, lo, ll, [sd], [Do], []⟩ := by
      refine { ext := x5, lt := s5 _ _ hlt4, ltl := rfl, lo := s5 _ _ hlo4, lol := rfl, ll := hll5, lll := rfl, tk := ?_, od := ?_, ld := ?_, newt := New.of hlt, newo := New.ext x3 (New.of hlo), newl := New.ext x4 (New.of hll), nto := nto, ntl := ntl, nol := nol, odn := ?_ }
      · intro k d h
        have : k = 0 ∧ sd = d := by
          cases k with
          | zero => exact ⟨rfl, by simpa using h⟩
          | succ k => simp at h
        obtain ⟨rfl, rfl⟩ := this
        exact ⟨_, ExtN.dK x5 hsd, fun n hn => startK_get ndn hn⟩
      · intro k d h
        have : k = 0 ∧ Do = d := by
          cases k with
          | zero => exact ⟨rfl, by simpa using h⟩
          | succ k => simp at h
        obtain ⟨rfl, rfl⟩ := this
        exact s5 _ _ (s4 _ _ hDo)
      · intro k d h
        simp at h
      · intro d hd
        rw [List.mem_singleton.mp hd]
        exact ⟨nDot, nDo, nDol⟩
    have T5 : Tabs T H5 := T3.ext (s4.trans s5)
    obtain ⟨us, u1, u2, u3⟩ := hS
    have hus : (us.map V.ref).length = secs.length := by rw [List.length_map, u2]
    refine ⟨_, rfl, sc, rfl, ⟨_, SqT.of (ExtN.tup x5 u1)⟩, for_it walk_tup
      (fun i σ H6 => ∃ v6 v7 v8 v9 v10 W, σ = [some (.ref sc), some (.ref sd), some (.ref pd), some (.ref W.lt), some (.ref W.lo), some (.ref W.ll), v6, v7, v8, v9, v10, none] ∧ DL H H6 secs cars i W ∧ Tabs T H6)
      ⟨none, none, none, none, none, _, rfl, D0, T5⟩ (fun i σ H6 _ ⟨_, _, _, _, _, _, _, D6, _⟩ => SqT.of (ExtN.tup D6.ext u1)) ?_ ?_⟩
    · clear D0 T5 x5 x4 x3 s5 s4 hll5 hlo4 hlt4 hlt3 s1 s2 hlt1 hl2 T2 T3 n3 hDo e3
      rintro i y σ H6z H6 hi ⟨v6, v7, v8, v9, v10, W, rfl, D, hT6⟩ ⟨e, hy⟩
      subst e
      obtain ⟨t, ht, rfl⟩ : ∃ t, us[i]? = some t ∧ y = V.ref t := by
        rw [List.getElem?_map] at hy
        obtain ⟨t, z1, z2⟩ := Option.map_eq_some_iff.mp hy
        exact ⟨t, z1, z2.symm⟩
      have hml : i < secs.length := by rw [hus] at hi; exact hi
      have hs : secs[i]? = some secs[i] := List.getElem?_eq_getElem hml
      have hct := ExtN.tup D.ext (u3 i t _ ht hs)
      have c0 := SO.len _ (List.getElem_mem hml)
      have hfew := SO.few
      refine ⟨t, _, rfl, SqT.of hct, rfl, _, _, rfl, _, _, rfl, rfl, ?_⟩
      generalize secs[i] = sn at hs hct c0 ⊢
      have h99 := c0.2
      have hpd6 := ExtN.dK D.ext hpd
      obtain ⟨td, htd⟩ : ∃ td, W.tds[i]? = some td := ⟨_, List.getElem?_eq_getElem (by rw [D.ltl]; omega)⟩
      obtain ⟨od, hod⟩ : ∃ od, W.ods[i]? = some od := ⟨_, List.getElem?_eq_getElem (by rw [D.lol]; omega)⟩
      obtain ⟨kt, ht1, ht2⟩ := D.tk i td htd
      have ho1 := D.od i od hod
      have hperm := plcC_perm secs cars i
      have eN : plcC secs cars (i + 1) = stepP (paceOf cars) (plcC secs cars i) sn := plc_succ (paceOf cars) (pl0 cars) secs hs
      have eL : ∀ n, ldrC secs cars i n = leadP (paceOf cars) (plcC secs cars i) sn n := fun n => by
        show ldr (paceOf cars) (pl0 cars) secs i n = _
        unfold ldr
        rw [hs]
      generalize hpl : plcC secs cars i = pl at *
      have hmem : ∀ n ∈ pl.ord, n ∈ names cars := fun n h => hperm.mem_iff.mp h
      have hlen10 : pl.ord.length ≤ 10 := by
        rw [hperm.length_eq]
        unfold names
        rw [List.length_map]
        exact CO.few
      have hndo : pl.ord.Nodup := hperm.nodup_iff.mpr ndn
      have pcb : ∀ n ∈ names cars, 1 ≤ paceOf cars n ∧ paceOf cars n ≤ 60 := fun n h => by
        obtain ⟨c, hc, rfl⟩ := List.mem_map.mp h
        rw [paceOf_car ndn hc]
        exact ⟨(CO.all c hc).p0, (CO.all c hc).p1⟩
      refine ⟨_, rfl, _, rfl, W.lo, _, _, .ref od, rfl, rfl, SqL.of D.lo, atI_lst (by rw [List.length_map, D.lol]) (by rw [List.getElem?_map, hod]; rfl), ?_⟩
      refine ⟨_, rfl, od, rfl, ⟨_, SqL.of ho1⟩, fun Dd hDd => ?_⟩
      refine dc_it walk_list (fun i H1 => Same H6 H1 ∧ ∃ kvs : List (Key × V), H1 Dd = some (.dK kvs) ∧ kvs.length ≤ i ∧ ∀ n ∈ pl.ord.take i, valV kvs (Sum.inr n : Key) = some (.int (freeP (paceOf cars) pl sn.2 n)))
        ⟨fun b o e => by rw [upd_ne (ne_of_none e hDd)]; exact e, [], upd_same, Nat.le_refl _, fun n hn => by simp at hn⟩ (fun i H1 _ ⟨k1, _⟩ => SqL.of (k1 _ _ ho1)) ?_ ?_
      · rintro j y H1 H2 hj ⟨k1, kvs, hD1, lk, hk⟩ ⟨e, hy⟩
        subst e
        obtain ⟨n, hn, rfl⟩ : ∃ n, pl.ord[j]? = some n ∧ y = V.str n := by
          rw [List.getElem?_map] at hy
          obtain ⟨t, z1, z2⟩ := Option.map_eq_some_iff.mp hy
          exact ⟨t, z1, z2.symm⟩
        have hnm := hmem n (List.mem_of_getElem? hn)
        have pb := pcb n hnm
        have hio : j < pl.ord.length := (List.getElem?_eq_some_iff.mp hn).1
        refine ⟨rfl, yes_of ?_⟩
        refine ⟨_, rfl, _, rfl, _, rfl, W.lt, _, _, .ref td, rfl, rfl, SqL.of (k1 _ _ D.lt), atI_lst (by rw [List.length_map, D.ltl]) (by rw [List.getElem?_map, htd]; rfl), _, rfl, td, _, rfl, gk (k1 _ _ ht1) (ht2 n hnm), _, rfl, _, rfl, pd, _, rfl, gk (k1 _ _ hpd6) (paceK_get ndn hnm), _, rfl, _, _, rfl, rfl, .inl ⟨by omega, by omega⟩, _, _, rfl, rfl, ?_⟩
        refine ⟨kvs, Sum.inr n, rfl, hD1, small1000 (by omega), fun b o e => by rw [upd_ne (ne_of_none e hDd)]; exact k1 _ _ e, _, upd_same, Nat.le_trans (length_putK _ _ _) (by omega), fun a ha => ?_⟩
        rw [tk1 hn] at ha
        rw [valV_putS]
        by_cases ean : a = n
        · rw [if_pos ean, ean]
          rfl
        · rw [if_neg ean]
          rcases List.mem_append.mp ha with ha | ha
          · exact hk a ha
          · exact absurd (List.mem_singleton.mp ha) ean
      · rintro H1 ⟨k1, kvs, hD1, lk, hk⟩
        have e9 : pl.ord.take (pl.ord.map V.str).length = pl.ord := by rw [List.length_map, List.take_length]
        rw [e9] at hk
        intro G hG
        have sG : Same H6 (upd H1 G (.dK [])) := fun b o e => by rw [upd_ne (ne_of_none (k1 _ _ e) hG)]; exact k1 _ _ e
        have nDG : Dd ≠ G := ne_of_none hD1 hG
        have hD2 : (upd H1 G (.dK [])) Dd = some (.dK kvs) := by rw [upd_ne nDG]; exact hD1
        have TG : Tabs T (upd H1 G (.dK [])) := hT6.ext sG
        refine ⟨_, rfl, rfl, _, rfl, ?_⟩
        have ek : decide (V.str (kindS sn.1) = V.str "wide") = sn.1 := by cases sn.1 <;> decide +kernel
        rw [ek]
        cases hw : sn.1 with
        | true =>
          refine iteT ?_
          refine ⟨_, rfl, _, rfl, od, Dd, pl.ord, kvs, freeP (paceOf cars) pl sn.2, rfl, SqL.of (sG _ _ ho1), hD2, hk, TG, fun H5 Dn e5 T5 n5 hDn => ?_⟩
          have D5 := (D.step (ExtN.same sG)).step e5
          have estep : plcC secs cars (i + 1) = ⟨sortBy (freeP (paceOf cars) pl sn.2) pl.ord, freeP (paceOf cars) pl sn.2⟩ := by
            rw [eN]
            unfold stepP
            rw [hw]
            rfl
          have hD5 := ExtN.dK e5 hD2
          have hG5 : H5 G = some (.dK []) := ExtN.dK e5 upd_same
          have onL : ∀ b xs, H6 b = some (.lst xs) → b ≠ Dn := fun b xs e => n5 b _ (sG _ _ e) (fun _ z => nomatch z)
          have z1 : (W.tds.map V.ref).length < sizeLine := by rw [List.length_map, D.ltl]; exact small1000 (by omega)
          have z2 : (W.ods.map V.ref).length < sizeLine := by rw [List.length_map, D.lol]; exact small1000 (by omega)
          have z3 : (W.lds.map V.ref).length < sizeLine := by rw [List.length_map, D.lll]; exact small1000 (by omega)
          have l2 : ∀ o, (upd H5 W.lt (.lst o)) W.lo = some (.lst (W.ods.map V.ref)) := fun o => by rw [upd_ne D5.nto.symm]; exact D5.lo
          have l3 : ∀ o o2, (upd (upd H5 W.lt (.lst o)) W.lo (.lst o2)) W.ll = some (.lst (W.lds.map V.ref)) := fun o o2 => by rw [upd_ne D5.nol.symm, upd_ne D5.ntl.symm]; exact D5.ll
          refine ⟨_, rfl, .inl ⟨rfl, _, SqL.of D5.lt⟩, _, rfl, W.lt, _, _, rfl, rfl, D5.lt, z1, ?_⟩
          refine ⟨_, rfl, .inl ⟨rfl, _, SqL.of (l2 _)⟩, _, rfl, W.lo, _, _, rfl, rfl, l2 _, z2, ?_⟩
          refine ⟨_, rfl, .inl ⟨rfl, _, SqL.of (l3 _ _)⟩, _, rfl, W.ll, _, _, rfl, rfl, l3 _ _, z3, ?_⟩
          refine ⟨_, _, _, _, _, W.more Dd Dn G, rfl, D5.push (td := Dd) (od := Dn) (ld := G) hD5 (fun n hn => ?_) (by rw [estep]; exact hDn) ⟨(onL _ _ D.lt).symm, (onL _ _ D.lo).symm, (onL _ _ D.ll).symm⟩ hG5 (fun n => ?_), Tabs.keepL T5 (upd3_keep D5.lt D5.lo D5.ll)⟩
          · rw [estep]
            exact hk n (hperm.mem_iff.mpr hn)
          · rw [eL n]
            unfold leadP
            rw [hw]
            rfl
        | false =>
          refine iteF ?_
          refine ⟨_, rfl, _, rfl, od, Dd, pl.ord, kvs, freeP (paceOf cars) pl sn.2, rfl, SqL.of (sG _ _ ho1), hD2, hk, hndo, by omega, fun H5 t L G2 kL kG s5 nL nG nLG ht hL hG2 tL tG => ?_⟩
          have D5 := D.step (ExtN.same (sG.trans s5))
          have estep : plcC secs cars (i + 1) = ⟨pl.ord, tickOf (foll (freeP (paceOf cars) pl sn.2) pl.ord)⟩ := by
            rw [eN]
            unfold stepP
            rw [hw]
            rfl
          have ho5 := s5 _ _ (sG _ _ ho1)
          have q := D.odn od (List.mem_of_getElem? hod)
          refine ⟨t, _, rfl, SqT.of ht, rfl, _, _, rfl, _, _, rfl, rfl, ?_⟩
          have z1 : (W.tds.map V.ref).length < sizeLine := by rw [List.length_map, D.ltl]; exact small1000 (by omega)
          have z2 : (W.ods.map V.ref).length < sizeLine := by rw [List.length_map, D.lol]; exact small1000 (by omega)
          have z3 : (W.lds.map V.ref).length < sizeLine := by rw [List.length_map, D.lll]; exact small1000 (by omega)
          have l2 : ∀ o, (upd H5 W.lt (.lst o)) W.lo = some (.lst (W.ods.map V.ref)) := fun o => by rw [upd_ne D5.nto.symm]; exact D5.lo
          have l3 : ∀ o o2, (upd (upd H5 W.lt (.lst o)) W.lo (.lst o2)) W.ll = some (.lst (W.lds.map V.ref)) := fun o o2 => by rw [upd_ne D5.nol.symm, upd_ne D5.ntl.symm]; exact D5.ll
          refine ⟨_, rfl, .inl ⟨rfl, _, SqL.of D5.lt⟩, _, rfl, W.lt, _, _, rfl, rfl, D5.lt, z1, ?_⟩
          refine ⟨_, rfl, .inl ⟨rfl, _, SqL.of (l2 _)⟩, _, rfl, W.lo, _, _, rfl, rfl, l2 _, z2, ?_⟩
          refine ⟨_, rfl, .inl ⟨rfl, _, SqL.of (l3 _ _)⟩, _, rfl, W.ll, _, _, rfl, rfl, l3 _ _, z3, ?_⟩
          have T5 : Tabs T H5 := TG.ext s5
          refine ⟨_, _, _, _, _, W.more L od G2, rfl, D5.push (td := L) (od := od) (ld := G2) hL (fun n hn => ?_) (by rw [estep]; exact ho5) q hG2 (fun n => ?_), Tabs.keepL T5 (upd3_keep D5.lt D5.lo D5.ll)⟩
          · rw [estep, tL n]
            obtain ⟨x, hx⟩ := look_some (acc := foll (freeP (paceOf cars) pl sn.2) pl.ord) (n := n) (by rw [foll_names]; exact hperm.mem_iff.mpr hn)
            show _ = some (V.int (tickOf (foll (freeP (paceOf cars) pl sn.2) pl.ord) n))
            unfold tickOf
            rw [hx]
            rfl
          · rw [tG n, lead_map, eL n]
            unfold leadP
            rw [hw]
            rfl
    · rintro σ H6 ⟨v6, v7, v8, v9, v10, W, rfl, D, hT6⟩
      rw [hus] at D
      refine ⟨_, rfl, _, rfl, _, rfl, by show 3 ≤ sizeLine; decide, fun t ht => ?_⟩
      have s7 : Same H6 (upd H6 t (.tup [.ref W.lt, .ref W.lo, .ref W.ll])) := fun b o e => by rw [upd_ne (ne_of_none e ht)]; exact e
      exact k _ t W (D.step (ExtN.same s7)) upd_same (New.ext D.ext (New.of ht)) (hT6.ext s7)
end
end Sl

set_option Elab.async false
set_option linter.all false
set_option maxRecDepth 100000
set_option maxHeartbeats 1000000
namespace Sl
open PySem PySem.Spec L2 OwnR LamX
theorem Tabs.keepP {T : List (Addr × Str)} {H H' : Hp} {p C d : Addr} {fs : List (Str × V)} (t : Tabs T H) (hp : H p = some (.ins C d fs)) (e : ∀ b o, H b = some o → b ≠ p → H' b = some o) : Tabs T H' := fun q hq => by
  obtain ⟨ps, h1, h2, h3⟩ := t q hq
  refine ⟨ps, e _ _ h1 (ne_of h1 hp (by intro z; cases z)), h2, fun pos cv hc => ?_⟩
  obtain ⟨c, e1, e2⟩ := h3 pos cv hc
  exact ⟨c, e1, e _ _ e2 (ne_of e2 hp (by intro z; unfold CodeO at z; cases z))⟩
theorem valV_names_none {g : Car → V} {cars : List Car} {n : Str} (h : n ∉ names cars) : valV (cars.map fun c => ((Sum.inr c.name : Key), g c)) (Sum.inr n : Key) = none := by
  induction cars with
  | nil => rfl
  | cons a l ih =>
    unfold names at h
    rw [List.map_cons, List.mem_cons] at h
    have hne : ¬ (Sum.inr a.name : Key) = Sum.inr n := fun z => h (.inl (Sum.inr.inj z).symm)
    rw [List.map_cons, valV_neg hne]
    exact ih fun z => h (.inr z)
theorem take_new {cars : List Car} (nd : (names cars).Nodup) {i : Nat} {c : Car} (h : cars[i]? = some c) : c.name ∉ names (cars.take i) := by
  intro hm
  obtain ⟨j, hj⟩ := List.mem_iff_getElem?.mp hm
  unfold names at hj nd
  rw [List.getElem?_map] at hj
  obtain ⟨c', hc', en⟩ := Option.map_eq_some_iff.mp hj
  have hj2 : j < i := by
    have := (List.getElem?_eq_some_iff.mp hc').1
    rw [List.length_take] at this
    omega
  rw [List.getElem?_take_of_lt hj2] at hc'
  have a1 : (cars.map (·.name))[j]? = some c.name := by rw [List.getElem?_map, hc']; exact congrArg some en
  have a2 : (cars.map (·.name))[i]? = some c.name := by rw [List.getElem?_map, h]; rfl
  have := nd_ix nd a1 a2
  omega
theorem put_car {g : Car → V} {cars : List Car} (nd : (names cars).Nodup) {i : Nat} {c : Car} (h : cars[i]? = some c) :
    putK ((cars.take i).map fun c => ((Sum.inr c.name : Key), g c)) (Sum.inr c.name : Key) (g c) = (cars.take (i + 1)).map fun c => ((Sum.inr c.name : Key), g c) := by
  rw [putK_new _ (valV_names_none (take_new nd h)), tk1 h, List.map_append]
  rfl
section
variable {P : Program} {w : World} {K : PySem.W.Frag} {mg : Str → Option Value} {base : Heap}
def spDInit (CR C : Addr) (T : List (Addr × Str)) : Sp := fun vs H Q _ => ∃ (H0 : Hp) (p dx r a : Addr) (secs : List Sec) (cars : List Car), vs = [.ref p, .ref r, .ref a] ∧ H p = some (.ins C dx []) ∧ Same H0 H ∧ H0 p = none ∧ RoadAt CR H0 r secs ∧ CarsAt H0 a cars ∧ SecsOk secs ∧ CarsOk cars ∧ Tabs T H0 ∧
  ∀ H' W, DP C H0 H' p secs cars secs.length W → Tabs T H' → Q .non H'
def nDInit : List Str := ["self", "road", "cars", "starts", "name", "start", "pace"]
theorem scDInit : FnScope nDInit ["self", "road", "cars"] (defScope sDInit) := ⟨rfl, rfl, rfl, by decide +kernel, rfl, by decide +kernel, by decide +kernel⟩
theorem ok_dInit {f fK fA fP CR C lp kp pp : Addr} {fd dK dA dP : FuncData} {T : List (Addr × Str)} (F : Fm K C "__init__" "Drive.__init__" sDInit ["self", "road", "cars"] f fd) (M : Mg mg) (R : DriveT K mg C) (RR : RoadT K w mg CR lp kp)
    (BK : Fb K mg "check_cars" sCheckCars ["cars"] fK dK) (BA : Fb K mg "drive_all" sDriveAll ["sections", "starts", "paces"] fA dA)
    (PO : PropOf K CR "sections" pp fP) (bP : Binds K dP ["self"] [])
    (GK : FnOk P w K mg base CX0 3 fK dK ["cars"] spCheckCars) (GA : FnOk P w K mg base CX0 4 fA dA ["sections", "starts", "paces"] (spDriveAll K T))
    (GP : FnOk P w K mg base CX0 1 fP dP ["self"] (getSp CR "_sections")) :
    FnOk P w K mg base CX0 5 f fd ["self", "road", "cars"] (spDInit CR C T) := by
  refine F.fn.ok scDInit (fun vs H Q E h => ?_) (fun cdv A outer s H vs Q E hr h => ?_)
  · obtain ⟨H0, p, dx, r, a, secs, cars, rfl, _⟩ := h
    rfl
  · obtain ⟨H0, p, dx, r, a, secs, cars, rfl, hp, s0, p0, hR, hC, SO, CO, hT, k⟩ := h
    have nd := scDInit.nd
    have hu := hu_of hr
    have hr2 : Room 2 (A.deeper (PyProof.Rows.envOfC "Drive.__init__" (defScope sDInit) s.heap.objs.size f cdv)) := hr.mono (by decide)
    have hr3 : Room 3 (A.deeper (PyProof.Rows.envOfC "Drive.__init__" (defScope sDInit) s.heap.objs.size f cdv)) := hr.mono (by decide)
    refine ⟨_, pss_cons (ps_expr (pe_call GK hr3 (by rfl) BK.at_ BK.fn.kp BK.bd .nil pass0 (pa_cons (pv 2) pa_nil)))
      (pss_cons (ps_fld (pv 0) (pe_prop (pv 1) RR.cl PO GP hr2 bP .nil pass0 rfl) rfl)
      (pss_cons (ps_fld (pv 0) (pe_dc (own := [("name", 4), ("start", 5), ("pace", 6)]) (g := gTup K 3 (gCons (gName 4) (gCons (gName 5) (gCons (gName 6) gNil)))) (tt := tYes) (by rfl) nd (pi_tup (pv 2)) (blkOk_by (N := nDInit) (sc := defScope sDInit) (by decide +kernel))
          (fun _ _ _ _ _ => pg_tup rfl (pgs_cons (pg_name (i := 4) nd rfl (Or.inl rfl)) (pgs_cons (pg_name (i := 5) nd rfl (Or.inl rfl)) (pgs_cons (pg_name (i := 6) nd rfl (Or.inl rfl)) pgs_nil)))) (fun _ _ _ _ _ => pts_nil) (fun _ _ _ _ _ => pv 4) (fun _ _ _ _ _ => pv 6)) rfl)
      (pss_cons (ps_setDc (i := 3) (own := [("name", 4), ("start", 5), ("pace", 6)]) (g := gTup K 3 (gCons (gName 4) (gCons (gName 5) (gCons (gName 6) gNil)))) (tt := tYes) (tk := tVar 4) (tv := tVar 5) (by rfl) nd rfl rfl (sw_trueD rfl rfl rfl (by decide +kernel)) (pi_tup (pv 2)) (blkOk_by (N := nDInit) (sc := defScope sDInit) (by decide +kernel))
          (fun _ _ _ _ _ => pg_tup rfl (pgs_cons (pg_name (i := 4) nd rfl (Or.inl rfl)) (pgs_cons (pg_name (i := 5) nd rfl (Or.inl rfl)) (pgs_cons (pg_name (i := 6) nd rfl (Or.inl rfl)) pgs_nil)))) (fun _ _ _ _ _ => pts_nil) (fun _ _ _ _ _ => pv 4) (fun _ _ _ _ _ => pv 5))
      (pss_one (ps_asg (pe_call GA hr (by rfl) BA.at_ BA.fn.kp BA.bd .nil pass0 (pa_cons (pe_prop (pv 1) RR.cl PO GP hr2 bP .nil pass0 rfl) (pa_cons (pv 3) (pa_cons (pe_fld (pv 0) rfl) pa_nil)))) (pg_tup rfl (pgs_cons (pg_fld (pv 0)) (pgs_cons (pg_fld (pv 0)) (pgs_cons (pg_fld (pv 0)) pgs_nil))))))))), ?_⟩
    have ndn : (names cars).Nodup := CO.nd
    obtain ⟨ts, ha, hlen, hcar⟩ := hC
    obtain ⟨dr, tr, ur, hr1, hsc, _⟩ := hR
    refine ⟨_, rfl, a, cars, rfl, ⟨ts, s0 _ _ ha, hlen, fun i t c e1 e2 => s0 _ _ (hcar i t c e1 e2)⟩, CO, fun H1 s1 => ?_⟩
    have s01 : Same H0 H1 := s0.trans s1
    have hp1 := s1 _ _ hp
    refine ⟨_, rfl, r, dr, _, rfl, s01 _ _ hr1, r, dr, _, _, rfl, s01 _ _ hr1, rf_sections _ _, _, rfl, p, C, dx, _, rfl, hp1, R.cl, R.nS, (by show 0 < 1000; decide), ?_⟩
    have old2 : ∀ b o, H0 b = some o → upd H1 p (.ins C dx (df1 tr)) b = some o := fun b o e => by rw [upd_ne (ne_of_none e p0)]; exact s01 _ _ e
    have hp2 : upd H1 p (.ins C dx (df1 tr)) p = some (.ins C dx (df1 tr)) := upd_same
    show tSeq _ _ _ _ (upd H1 p (.ins C dx (df1 tr)))
    generalize upd H1 p (.ins C dx (df1 tr)) = H2 at old2 hp2 ⊢
    have htz : (ts.map V.ref).length = cars.length := by rw [List.length_map, hlen]
    have e9 : cars.take (ts.map V.ref).length = cars := by rw [htz, List.take_length]
    refine ⟨_, rfl, a, rfl, ⟨_, SqT.of (old2 _ _ ha)⟩, fun D hD => ?_⟩
    refine dc_it walk_tup (fun i H3 => Same H2 H3 ∧ H3 D = some (.dK ((cars.take i).map fun c => ((Sum.inr c.name : Key), V.int c.pace))))
      ⟨fun b o e => by rw [upd_ne (ne_of_none e hD)]; exact e, upd_same⟩ (fun i H3 _ ⟨k1, _⟩ => SqT.of (k1 _ _ (old2 _ _ ha))) ?_ ?_
    · rintro i y H3 H4 hi ⟨k1, hD1⟩ ⟨e, hy⟩
      subst e
      obtain ⟨t, ht, rfl⟩ : ∃ t, ts[i]? = some t ∧ y = V.ref t := by
        rw [List.getElem?_map] at hy
        obtain ⟨t, z1, z2⟩ := Option.map_eq_some_iff.mp hy
        exact ⟨t, z1, z2.symm⟩
      have hic : i < cars.length := by rw [htz] at hi; exact hi
      have hc : cars[i]? = some cars[i] := List.getElem?_eq_getElem hic
      have hct := k1 _ _ (old2 _ _ (hcar i t _ ht hc))
      refine ⟨t, _, rfl, SqT.of hct, rfl, _, _, rfl, _, _, rfl, _, _, rfl, rfl, rfl, yes_of ?_⟩
      refine ⟨_, rfl, _, rfl, _, Sum.inr cars[i].name, rfl, hD1, by rw [List.length_map, List.length_take]; have := CO.few; exact small1000 (by omega), fun b o e => by rw [upd_ne (ne_of_none e hD)]; exact k1 _ _ e, ?_⟩
      rw [upd_same, put_car (g := fun c => V.int c.pace) ndn hc]
    · rintro H3 ⟨k1, hD1⟩
      rw [e9] at hD1
      have hp3 := k1 _ _ hp2
      refine ⟨_, rfl, p, C, dx, _, rfl, hp3, R.cl, R.nP, (by show 1 < 1000; decide), ?_⟩
      have nDp : D ≠ p := ne_of hD1 hp3 (by intro z; cases z)
      have old4 : ∀ b o, H0 b = some o → upd H3 p (.ins C dx (df2 tr D)) b = some o := fun b o e => by rw [upd_ne (ne_of_none e p0)]; exact k1 _ _ (old2 _ _ e)
      have hp4 : upd H3 p (.ins C dx (df2 tr D)) p = some (.ins C dx (df2 tr D)) := upd_same
      have hD4 : upd H3 p (.ins C dx (df2 tr D)) D = some (.dK (paceK cars)) := by rw [upd_ne nDp]; exact hD1
      show tSeq _ _ _ _ (upd H3 p (.ins C dx (df2 tr D)))
      generalize upd H3 p (.ins C dx (df2 tr D)) = H4 at old4 hp4 hD4 ⊢
      refine ⟨_, rfl, a, rfl, ⟨_, SqT.of (old4 _ _ ha)⟩, fun D2 hD2 => ?_⟩
      refine dc_it walk_tup (fun i H3 => Same H4 H3 ∧ H3 D2 = some (.dK ((cars.take i).map fun c => ((Sum.inr c.name : Key), V.int c.start))))
        ⟨fun b o e => by rw [upd_ne (ne_of_none e hD2)]; exact e, upd_same⟩ (fun i H3 _ ⟨k1, _⟩ => SqT.of (k1 _ _ (old4 _ _ ha))) ?_ ?_
      · rintro i y H3 H5 hi ⟨k1, hD1⟩ ⟨e, hy⟩
        subst e
        obtain ⟨t, ht, rfl⟩ : ∃ t, ts[i]? = some t ∧ y = V.ref t := by
          rw [List.getElem?_map] at hy
          obtain ⟨t, z1, z2⟩ := Option.map_eq_some_iff.mp hy
          exact ⟨t, z1, z2.symm⟩
        have hic : i < cars.length := by rw [htz] at hi; exact hi
        have hc : cars[i]? = some cars[i] := List.getElem?_eq_getElem hic
        have hct := k1 _ _ (old4 _ _ (hcar i t _ ht hc))
        refine ⟨t, _, rfl, SqT.of hct, rfl, _, _, rfl, _, _, rfl, _, _, rfl, rfl, rfl, yes_of ?_⟩
        refine ⟨_, rfl, _, rfl, _, Sum.inr cars[i].name, rfl, hD1, by rw [List.length_map, List.length_take]; have := CO.few; exact small1000 (by omega), fun b o e => by rw [upd_ne (ne_of_none e hD2)]; exact k1 _ _ e, ?_⟩
        rw [upd_same, put_car (g := fun c => V.int c.start) ndn hc]
      · rintro H5 ⟨k5, hD5⟩
        rw [e9] at hD5
        have hp5 := k5 _ _ hp4
        have old5 : ∀ b o, H0 b = some o → H5 b = some o := fun b o e => k5 _ _ (old4 _ _ e)
        have T5 : Tabs T H5 := hT.ext old5
        have hD45 := k5 _ _ hD4
        have hS5 : SecsAt H5 tr secs := by
          obtain ⟨us, u1, u2, u3⟩ := hsc
          exact ⟨us, old5 _ _ u1, u2, fun i t s e1 e2 => old5 _ _ (u3 i t s e1 e2)⟩
        refine ⟨_, rfl, r, dr, _, rfl, old5 _ _ hr1, r, dr, _, _, rfl, old5 _ _ hr1, rf_sections _ _, _, rfl, _, rfl, p, C, dx, _, _, rfl, hp5, R.cl, R.nP, df2_paces _ _, ?_⟩
        refine ⟨tr, D2, D, secs, cars, rfl, hS5, hD5, hD45, SO, CO, T5, fun H6 t W L ht nt T6 => ?_⟩
        have hp6 := ExtN.ins L.ext hp5
        refine ⟨t, _, rfl, SqT.of ht, rfl, ?_⟩
        have i3 : upd H6 p (.ins C dx (df3 tr D W.lt)) p = some (.ins C dx (df3 tr D W.lt)) := upd_same
        have i4 : ∀ o, upd (upd H6 p o) p (.ins C dx (df4 tr D W.lt W.lo)) p = some (.ins C dx (df4 tr D W.lt W.lo)) := fun o => upd_same
        refine ⟨_, _, rfl, ⟨_, rfl, p, C, dx, _, rfl, hp6, R.cl, R.nT, (by show (df2 tr D).length < 1000; exact Nat.lt_of_le_of_lt (putF_len _ _ _) (by show 1 + 1 < 1000; decide)), ?_⟩⟩
        refine ⟨_, _, rfl, ⟨_, rfl, p, C, dx, _, rfl, i3, R.cl, R.nO, Nat.lt_of_le_of_lt (Nat.le_trans (putF_len _ _ _) (Nat.succ_le_succ (putF_len _ _ _))) (by show 1 + 1 + 1 < 1000; decide), ?_⟩⟩
        refine ⟨_, _, rfl, ⟨_, rfl, p, C, dx, _, rfl, i4 _, R.cl, R.nL, Nat.lt_of_le_of_lt (Nat.le_trans (putF_len _ _ _) (Nat.succ_le_succ (Nat.le_trans (putF_len _ _ _) (Nat.succ_le_succ (putF_len _ _ _))))) (by show 1 + 1 + 1 + 1 < 1000; decide), rfl, ?_⟩⟩
        have hpE : upd (upd (upd H6 p (.ins C dx (df3 tr D W.lt))) p (.ins C dx (df4 tr D W.lt W.lo))) p (.ins C dx (df5 tr D W.lt W.lo W.ll)) p = some (.ins C dx (df5 tr D W.lt W.lo W.ll)) := upd_same
        have keep : ∀ b o, H6 b = some o → b ≠ p → upd (upd (upd H6 p (.ins C dx (df3 tr D W.lt))) p (.ins C dx (df4 tr D W.lt W.lo))) p (.ins C dx (df5 tr D W.lt W.lo W.ll)) b = some o := fun b o e n => by
          rw [upd_ne n, upd_ne n, upd_ne n]
          exact e
        show Ends.nx _ _ (upd (upd (upd H6 p (.ins C dx (df3 tr D W.lt))) p (.ins C dx (df4 tr D W.lt W.lo))) p (.ins C dx (df5 tr D W.lt W.lo W.ll)))
        generalize upd (upd (upd H6 p (.ins C dx (df3 tr D W.lt))) p (.ins C dx (df4 tr D W.lt W.lo))) p (.ins C dx (df5 tr D W.lt W.lo W.ll)) = H9 at hpE keep ⊢
        have T9 : Tabs T H9 := Tabs.keepP T6 hp6 keep
        have np : ∀ b o, H6 b = some o → (∀ C d fs, o ≠ .ins C d fs) → H9 b = some o := fun b o e n => keep b o e (ne_of e hp6 (n _ _ _))
        have x05 : ExtN H0 H5 := fun b o e _ => old5 _ _ e
        refine k H9 ⟨dx, tr, D, W.lt, W.lo, W.ll, W.tds, W.ods, W.lds⟩ ?_ T9
        exact { ext := fun b o e n => keep b o (L.ext b o (old5 _ _ e) n) (ne_of_none e p0)
                ins := hpE
                sec := by
                  obtain ⟨us, u1, u2, u3⟩ := hS5
                  exact ⟨us, np _ _ (ExtN.tup L.ext u1) (fun _ _ _ z => nomatch z), u2, fun i t s e1 e2 => np _ _ (ExtN.tup L.ext (u3 i t s e1 e2)) (fun _ _ _ z => nomatch z)⟩
                pac := np _ _ (ExtN.dK L.ext hD45) (fun _ _ _ z => nomatch z)
                lt := np _ _ L.lt (fun _ _ _ z => nomatch z)
                ltl := L.ltl
                lo := np _ _ L.lo (fun _ _ _ z => nomatch z)
                lol := L.lol
                ll := np _ _ L.ll (fun _ _ _ z => nomatch z)
                lll := L.lll
                tk := fun k d h => let ⟨kv, a, b⟩ := L.tk k d h; ⟨kv, np _ _ a (fun _ _ _ z => nomatch z), b⟩
                od := fun k d h => np _ _ (L.od k d h) (fun _ _ _ z => nomatch z)
                ld := fun k d h => let ⟨kv, a, b⟩ := L.ld k d h; ⟨kv, np _ _ a (fun _ _ _ z => nomatch z), b⟩
                newp := New.of p0
                newt := New.ext x05 L.newt
                newo := New.ext x05 L.newo
                newl := New.ext x05 L.newl
                nto := L.nto
                ntl := L.ntl
                nol := L.nol
                odn := L.odn }
end
end Sl

set_option Elab.async false
set_option linter.all false
set_option maxRecDepth 100000
set_option maxHeartbeats 1000000
namespace Sl
open PySem PySem.Spec L2 OwnR LamX
/-- a Drive, all of it driven -/
def DA (C : Addr) (H : Hp) (p : Addr) (secs : List Sec) (cars : List Car) : Prop := ∃ H0 W, DP C H0 H p secs cars secs.length W
theorem DA.ext {C : Addr} {H H' : Hp} {p : Addr} {secs : List Sec} {cars : List Car} (h : DA C H p secs cars) (e : ExtN H H') : DA C H' p secs cars := let ⟨H0, W, D⟩ := h; ⟨H0, W, D.step e⟩
theorem paceK_none {cars : List Car} {n : Str} (h : n ∉ names cars) : valV (paceK cars) (Sum.inr n : Key) = none := valV_names_none (g := fun c => V.int c.pace) h
theorem paceK_some (cars : List Car) (n : Str) : (valV (paceK cars) (Sum.inr n : Key)).isSome = decide (n ∈ names cars) := by
  by_cases h : n ∈ names cars
  · rw [decide_eq_true h]
    induction cars with
    | nil => cases h
    | cons a l ih =>
      by_cases e : a.name = n
      · have : valV (paceK (a :: l)) (Sum.inr n : Key) = some (V.int a.pace) := by rw [← e]; exact valV_pos rfl
        rw [this]
        rfl
      · have hne : ¬ (Sum.inr a.name : Key) = Sum.inr n := fun z => e (Sum.inr.inj z)
        have hm : n ∈ names l := by
          unfold names at h ⊢
          rw [List.map_cons, List.mem_cons] at h
          rcases h with h | h
          · exact absurd h.symm e
          · exact h
        have : valV (paceK (a :: l)) (Sum.inr n : Key) = valV (paceK l) (Sum.inr n : Key) := valV_neg hne
        rw [this]
        exact ih hm
  · rw [decide_eq_false h, paceK_none h]
    rfl
section
variable {P : Program} {w : World} {K : PySem.W.Frag} {mg : Str → Option Value} {base : Heap}
/-! ### name in drive -/
def spHas (C : Addr) : Sp := fun vs H Q _ => ∃ (p : Addr) (secs : List Sec) (cars : List Car) (n : Str), vs = [.ref p, .str n] ∧ DA C H p secs cars ∧ Q (.bl (decide (n ∈ names cars))) H
theorem scHas : FnScope ["self", "x"] ["self", "x"] (defScope sDHas) := ⟨rfl, rfl, rfl, by decide +kernel, rfl, by decide +kernel, by decide +kernel⟩
theorem ok_has {f C : Addr} {fd : FuncData} (F : Fun K "__contains__" "Drive.__contains__" sDHas f fd) (M : Mg mg) (R : DriveT K mg C) : FnOk P w K mg base CX0 1 f fd ["self", "x"] (spHas C) := by
  refine F.ok scHas (fun vs H Q E h => ?_) (fun cdv A outer s H vs Q E hr h => ?_)
  · obtain ⟨p, secs, cars, n, rfl, _⟩ := h
    rfl
  · obtain ⟨p, secs, cars, n, rfl, ⟨H0, W, D⟩, k⟩ := h
    have hu := hu_of hr
    refine ⟨_, pss_one (ps_ret (pe_and (pe_callB call_isi (by rfl) M.isinstance boot_isinstance (pa_cons (pv 1) (pa_cons (pe_bltn (v := .ty "str") (by rfl) M.str boot_tStr rfl) pa_nil))) (pe_one (pe_cmp (pc_din hu (pv 1) (pe_fld (pv 0) rfl)) (by rfl))))), ?_⟩
    refine ⟨_, rfl, _, _, _, _, true, rfl, .ty _, .base (.str n), kit_ty (by decide +kernel), true, rfl, iteT ?_⟩
    refine ⟨_, rfl, _, rfl, p, C, W.dx, _, _, rfl, D.ins, R.cl, R.nP, df5_paces _ _ _ _ _, W.pd, _, rfl, DGet.k (k := (Sum.inr n : Key)) D.pac, ?_⟩
    rw [paceK_some]
    exact k
/-! ### _check_car -/
def spCheckCar (C : Addr) : Sp := fun vs H Q _ => ∃ (p : Addr) (secs : List Sec) (cars : List Car) (n : Str), vs = [.ref p, .str n] ∧ DA C H p secs cars ∧ n ∈ names cars ∧ Q .non H
theorem scCheckCar : FnScope ["self", "name"] ["self", "name"] (defScope sDCheckCar) := ⟨rfl, rfl, rfl, by decide +kernel, rfl, by decide +kernel, by decide +kernel⟩
theorem ok_checkCar {f fH C : Addr} {fd dH : FuncData} (F : Fm K C "_check_car" "Drive._check_car" sDCheckCar ["self", "name"] f fd) (hs : PySem.W.findIn K (.ref C) "__contains__" = some (some (.ref fH))) (hf : PySem.W.isFn K (.ref fH) = true) (bH : Binds K dH ["self", "x"] [])
    (GH : FnOk P w K mg base CX0 1 fH dH ["self", "x"] (spHas C)) : FnOk P w K mg base CX0 2 f fd ["self", "name"] (spCheckCar C) := by
  refine F.fn.ok scCheckCar (fun vs H Q E h => ?_) (fun cdv A outer s H vs Q E hr h => ?_)
  · obtain ⟨p, secs, cars, n, rfl, _⟩ := h
    rfl
  · obtain ⟨p, secs, cars, n, rfl, ⟨H0, W, D⟩, hn, k⟩ := h
    refine ⟨_, pss_one (ps_if (pt_cmpR (op_notInO hs hf (GH.raw bH .nil) hr pass0) (pv 1) (pv 0) (by rfl)) (pss_one ps_never) pss_nil), ?_⟩
    refine ⟨_, rfl, _, rfl, p, W.dx, _, rfl, D.ins, p, secs, cars, n, rfl, ⟨H0, W, D⟩, _, rfl, false, ?_, iteF k⟩
    rw [decide_eq_true hn]
    rfl
/-! ### _check_place, _check_section -/
def spCheckPlace (C : Addr) : Sp := fun vs H Q _ => ∃ (p : Addr) (secs : List Sec) (cars : List Car) (k : Nat), vs = [.ref p, .int (k : Nat)] ∧ DA C H p secs cars ∧ k ≤ secs.length ∧ Q .non H
theorem scCheckPlace : FnScope ["self", "place"] ["self", "place"] (defScope sDCheckPlace) := ⟨rfl, rfl, rfl, by decide +kernel, rfl, by decide +kernel, by decide +kernel⟩
theorem ok_checkPlace {f fB C : Addr} {fd dB : FuncData} (F : Fm K C "_check_place" "Drive._check_place" sDCheckPlace ["self", "place"] f fd) (M : Mg mg) (R : DriveT K mg C) (BB : Fb K mg "is_number" sIsNumber ["value", "least", "most"] fB dB)
    (GB : FnOk P w K mg base CX0 1 fB dB ["value", "least", "most"] spIsNumber) : FnOk P w K mg base CX0 2 f fd ["self", "place"] (spCheckPlace C) := by
  refine F.fn.ok scCheckPlace (fun vs H Q E h => ?_) (fun cdv A outer s H vs Q E hr h => ?_)
  · obtain ⟨p, secs, cars, n, rfl, _⟩ := h
    rfl
  · obtain ⟨p, secs, cars, n, rfl, ⟨H0, W, D⟩, hn, k⟩ := h
    obtain ⟨us, u1, u2, u3⟩ := D.sec
    refine ⟨_, pss_one (ps_if (pt_not (pt_val (pe_call GB hr (by rfl) BB.at_ BB.fn.kp BB.bd .nil pass0 (pa_cons (pv 1) (pa_cons pe_int (pa_cons (pe_callB call_len_seq (by rfl) M.len boot_len (pa_cons (pe_fld (pv 0) rfl) pa_nil)) pa_nil)))))) (pss_one ps_never) pss_nil), ?_⟩
    refine ⟨_, rfl, _, rfl, p, C, W.dx, _, _, rfl, D.ins, R.cl, R.nS, df5_sections _ _ _ _ _, W.sc, _, rfl, .inr (SqT.of u1), (n : Nat), 0, _, rfl, true, ?_, iteF k⟩
    rw [List.length_map, u2, decide_eq_true (by omega : (0 : Int) ≤ (n : Nat)), decide_eq_true (by omega : ((n : Nat) : Int) ≤ (secs.length : Nat))]
    rfl
/-! ### drive[name] -/
def tksL (secs : List Sec) (cars : List Car) (n : Str) : List Int := (List.range (secs.length + 1)).map fun k => (plcC secs cars k).tk n
def spGet (C : Addr) : Sp := fun vs H Q _ => ∃ (p : Addr) (secs : List Sec) (cars : List Car) (n : Str), vs = [.ref p, .str n] ∧ DA C H p secs cars ∧ n ∈ names cars ∧ secs.length ≤ 12 ∧ ∀ H' t, Same H H' → H' t = some (.tup ((tksL secs cars n).map V.int)) → Q (.ref t) H'
def nDGet : List Str := ["self", "at", "ticks"]
theorem scGet : FnScope nDGet ["self", "at"] (defScope sDGet) := ⟨rfl, rfl, rfl, by decide +kernel, rfl, by decide +kernel, by decide +kernel⟩
theorem ok_get {f fC C : Addr} {fd dC : FuncData} (F : Fun K "__getitem__" "Drive.__getitem__" sDGet f fd) (M : Mg mg) (R : DriveT K mg C) (BC : Fm K C "_check_car" "Drive._check_car" sDCheckCar ["self", "name"] fC dC)
    (GC : FnOk P w K mg base CX0 2 fC dC ["self", "name"] (spCheckCar C)) : FnOk P w K mg base CX0 3 f fd ["self", "at"] (spGet C) := by
  refine F.ok scGet (fun vs H Q E h => ?_) (fun cdv A outer s H vs Q E hr h => ?_)
  · obtain ⟨p, secs, cars, n, rfl, _⟩ := h
    rfl
  · obtain ⟨p, secs, cars, n, rfl, ⟨H0, W, D⟩, hn, h12, k⟩ := h
    have nd := scGet.nd
    have hu := hu_of hr
    have noF : ∀ {m : Str}, (¬ m = "_sections") → (¬ m = "_paces") → (¬ m = "_ticks") → (¬ m = "_orders") → (¬ m = "_leaders") → (df5 W.sc W.pd W.lt W.lo W.ll).lookup m = none := fun a b c d e => df5_no _ _ _ _ _ a b c d e
    refine ⟨_, pss_cons (ps_expr (pe_meth (pv 0) R.cl BC.at_ GC hr BC.bd .nil pass0 (pa_cons (pv 1) pa_nil)))
      (pss_one (ps_ret (pe_callTy call_tuple_of (by rfl) M.tuple boot_tTuple (pa_cons (pe_lc (own := [("ticks", 2)]) (g := gName 2) (tt := tYes) (te := tDGet (tVar 2) (tVar 1)) (by rfl) nd (pi_list (pe_fld (pv 0) rfl)) (blkOk_by (N := nDGet) (sc := defScope sDGet) (by decide +kernel))
        (fun _ _ _ _ _ => pg_name (i := 2) nd rfl (Or.inl rfl)) (fun _ _ _ _ _ => pts_nil) (fun _ _ _ _ _ => pe_dget hu (pv 2) (pv 1) (fun _ _ => rfl))) pa_nil)))), ?_⟩
    refine ⟨_, rfl, p, W.dx, _, rfl, D.ins, noF (by decide +kernel) (by decide +kernel) (by decide +kernel) (by decide +kernel) (by decide +kernel), _, rfl, p, secs, cars, n, rfl, ⟨H0, W, D⟩, hn, ?_⟩
    refine ⟨_, rfl, p, C, W.dx, _, _, rfl, D.ins, R.cl, R.nT, df5_ticks _ _ _ _ _, W.lt, rfl, ⟨_, SqL.of D.lt⟩, fun L hL => ?_⟩
    have hltz : (W.tds.map V.ref).length = secs.length + 1 := by rw [List.length_map, D.ltl]
    refine lc_it walk_list (fun i H1 => Same H H1 ∧ H1 L = some (.lst (((List.range i).map fun k => (plcC secs cars k).tk n).map V.int)))
      ⟨fun b o e => by rw [upd_ne (ne_of_none e hL)]; exact e, upd_same⟩ (fun i H1 _ ⟨k1, _⟩ => SqL.of (k1 _ _ D.lt)) ?_ ?_
    · rintro i y H1 H2 hi ⟨k1, hL1⟩ ⟨e, hy⟩
      subst e
      obtain ⟨t, ht, rfl⟩ : ∃ t, W.tds[i]? = some t ∧ y = V.ref t := by
        rw [List.getElem?_map] at hy
        obtain ⟨t, z1, z2⟩ := Option.map_eq_some_iff.mp hy
        exact ⟨t, z1, z2.symm⟩
      obtain ⟨kv, a1, a2⟩ := D.tk i t ht
      refine ⟨rfl, yes_of ?_⟩
      refine ⟨_, rfl, _, rfl, t, _, rfl, gk (k1 _ _ a1) (a2 n hn), _, hL1, ?_, fun b o e => by rw [upd_ne (ne_of_none e hL)]; exact k1 _ _ e, ?_⟩
      · rw [List.length_map, List.length_map, List.length_range]
        exact small1000 (by omega)
      · rw [upd_same, List.range_succ, List.map_append, List.map_append]
        rfl
    · rintro H1 ⟨k1, hL1⟩
      rw [hltz] at hL1
      refine ⟨L, _, rfl, .inl ⟨SqL.of hL1, fun t ht => ?_⟩⟩
      exact k _ t (fun b o e => by rw [upd_ne (ne_of_none (k1 _ _ e) ht)]; exact k1 _ _ e) upd_same
end
end Sl

set_option Elab.async false
set_option linter.all false
set_option maxRecDepth 100000
set_option maxHeartbeats 1000000
namespace Sl
open PySem PySem.Spec L2 OwnR LamX
section
variable {P : Program} {w : World} {K : PySem.W.Frag} {mg : Str → Option Value} {base : Heap}
/-! ### len(drive) -/
def spLenD (C : Addr) : Sp := fun vs H Q _ => ∃ (p : Addr) (secs : List Sec) (cars : List Car), vs = [.ref p] ∧ DA C H p secs cars ∧ Q (.int (cars.length : Nat)) H
theorem scLenD : FnScope ["self"] ["self"] (defScope sDLen) := ⟨rfl, rfl, rfl, by decide +kernel, rfl, by decide +kernel, by decide +kernel⟩
theorem ok_lenD {f C : Addr} {fd : FuncData} (F : Fun K "__len__" "Drive.__len__" sDLen f fd) (M : Mg mg) (R : DriveT K mg C) : FnOk P w K mg base CX0 1 f fd ["self"] (spLenD C) := by
  refine F.ok scLenD (fun vs H Q E h => ?_) (fun cdv A outer s H vs Q E hr h => ?_)
  · obtain ⟨p, secs, cars, rfl, _⟩ := h
    rfl
  · obtain ⟨p, secs, cars, rfl, ⟨H0, W, D⟩, k⟩ := h
    refine ⟨_, pss_one (ps_ret (pe_callB call_lenD (by rfl) M.len boot_len (pa_cons (pe_fld (pv 0) rfl) pa_nil))), ?_⟩
    refine ⟨_, rfl, p, C, W.dx, _, _, rfl, D.ins, R.cl, R.nP, df5_paces _ _ _ _ _, W.pd, _, rfl, D.pac, ?_⟩
    have e : (paceK cars).length = cars.length := by unfold paceK; rw [List.length_map]
    rw [e]
    exact k
/-! ### order_at -/
theorem DP.tdk {C : Addr} {H0 H : Hp} {p : Addr} {secs : List Sec} {cars : List Car} {m : Nat} {W : DW} (D : DP C H0 H p secs cars m W) {k : Nat} (h : k ≤ m) : ∃ d, W.tds[k]? = some d := ⟨_, List.getElem?_eq_getElem (by rw [D.ltl]; omega)⟩
theorem DP.odk {C : Addr} {H0 H : Hp} {p : Addr} {secs : List Sec} {cars : List Car} {m : Nat} {W : DW} (D : DP C H0 H p secs cars m W) {k : Nat} (h : k ≤ m) : ∃ d, W.ods[k]? = some d := ⟨_, List.getElem?_eq_getElem (by rw [D.lol]; omega)⟩
theorem DP.ldk {C : Addr} {H0 H : Hp} {p : Addr} {secs : List Sec} {cars : List Car} {m : Nat} {W : DW} (D : DP C H0 H p secs cars m W) {k : Nat} (h : k < m) : ∃ d, W.lds[k]? = some d := ⟨_, List.getElem?_eq_getElem (by rw [D.lll]; omega)⟩
theorem map_at {α β : Type} {xs : List α} {k : Nat} {v : α} (f : α → β) (h : xs[k]? = some v) : (xs.map f)[k]? = some (f v) := by rw [List.getElem?_map, h]; rfl
def strO (o : Option Str) : V := (o.map V.str).getD .non
/-! ### drive(name), drive(name, place) -/
def spCallD (C : Addr) : Sp := fun vs H Q _ => ∃ (p : Addr) (secs : List Sec) (cars : List Car) (n : Str) (i : Nat) (pl : V), vs = [.ref p, .str n, pl] ∧ DA C H p secs cars ∧ n ∈ names cars ∧ i ≤ secs.length ∧ ((pl = .non ∧ i = secs.length) ∨ pl = .int (i : Nat)) ∧ Q (.int ((plcC secs cars i).tk n)) H
theorem scCallD : FnScope ["self", "name", "place"] ["self", "name", "place"] (defScope sDCall) := ⟨rfl, rfl, rfl, by decide +kernel, rfl, by decide +kernel, by decide +kernel⟩
theorem ok_callD {f fB fC C : Addr} {fd dB dC : FuncData} (F : FunD K "__call__" "Drive.__call__" (defArgs sDCall) (defBody sDCall) (defScope sDCall) [.non] [] f fd) (M : Mg mg) (R : DriveT K mg C)
    (BC : Fm K C "_check_car" "Drive._check_car" sDCheckCar ["self", "name"] fC dC) (GC : FnOk P w K mg base CX0 2 fC dC ["self", "name"] (spCheckCar C))
    (BB : Fm K C "_check_place" "Drive._check_place" sDCheckPlace ["self", "place"] fB dB) (GB : FnOk P w K mg base CX0 2 fB dB ["self", "place"] (spCheckPlace C)) : FnOk P w K mg base CX0 3 f fd ["self", "name", "place"] (spCallD C) := by
  refine F.ok (CX := CX0) scCallD (fun vs H Q E h => ?_) (fun cdv A outer s H vs Q E hr h => ?_)
  · obtain ⟨p, secs, cars, n, i, pl, rfl, _⟩ := h
    rfl
  · suffices hq : ∃ t, PSs (cxOf CX0 P w K mg base ["self", "name", "place"] "Drive.__call__" (defScope sDCall) f cdv A outer s H E).nox (defBody sDCall) t ∧ t { nx := fun _ H' => Q .non H', rt := Q } (start ["self", "name", "place"] vs) H by
      obtain ⟨t, h1, h2⟩ := hq
      exact ⟨t, h1.nox, h2⟩
    obtain ⟨p, secs, cars, n, i, pl, rfl, ⟨H0, W, D⟩, hn, hi, hpl, k⟩ := h
    have hu := hu_of hr
    have nd := scCallD.nd
    refine ⟨_, pss_cons (ps_expr (pe_meth (pv 0) R.cl BC.at_ GC hr BC.bd .nil pass0 (pa_cons (pv 1) pa_nil)))
      (pss_cons (ps_if (pt_cmp (pc_isN (pv 2)) (by rfl)) (pss_one (ps_set (i := 2) nd rfl (.inl rfl) (pe_callB call_len_seq (by rfl) M.len boot_len (pa_cons (pe_fld (pv 0) rfl) pa_nil)))) pss_nil)
      (pss_cons (ps_expr (pe_meth (pv 0) R.cl BB.at_ GB hr BB.bd .nil pass0 (pa_cons (pv 2) pa_nil)))
      (pss_one (ps_ret (pe_dget hu (pe_ix ix_list (pe_fld (pv 0) rfl) (pv 2) (fun _ _ => rfl)) (pv 1) (fun _ _ => rfl)))))), ?_⟩
    obtain ⟨td, htd⟩ := D.tdk hi
    obtain ⟨kv, a1, a2⟩ := D.tk i td htd
    obtain ⟨us, u1, u2, u3⟩ := D.sec
    have nf : ∀ {m : Str}, (¬ m = "_sections") → (¬ m = "_paces") → (¬ m = "_ticks") → (¬ m = "_orders") → (¬ m = "_leaders") → (df5 W.sc W.pd W.lt W.lo W.ll).lookup m = none := fun a b c d e => df5_no _ _ _ _ _ a b c d e
    refine ⟨_, rfl, p, W.dx, _, rfl, D.ins, nf (by decide +kernel) (by decide +kernel) (by decide +kernel) (by decide +kernel) (by decide +kernel), _, rfl, p, secs, cars, n, rfl, ⟨H0, W, D⟩, hn, ?_⟩
    rcases hpl with ⟨rfl, rfl⟩ | rfl
    · refine ⟨_, rfl, _, rfl, ?_⟩
      rw [show decide (V.non = V.non) = true by simp]
      refine iteT ?_
      refine ⟨_, rfl, p, C, W.dx, _, _, rfl, D.ins, R.cl, R.nS, df5_sections _ _ _ _ _, W.sc, _, rfl, .inr (SqT.of u1), ?_⟩
      rw [List.length_map, u2]
      refine ⟨_, rfl, p, W.dx, _, rfl, D.ins, nf (by decide +kernel) (by decide +kernel) (by decide +kernel) (by decide +kernel) (by decide +kernel), _, rfl, p, secs, cars, secs.length, rfl, ⟨H0, W, D⟩, hi, ?_⟩
      refine ⟨_, rfl, p, C, W.dx, _, _, rfl, D.ins, R.cl, R.nT, df5_ticks _ _ _ _ _, _, rfl, W.lt, _, _, .ref td, rfl, rfl, SqL.of D.lt, atI_nat (map_at V.ref htd), ?_⟩
      exact ⟨_, rfl, td, _, rfl, gk a1 (a2 n hn), k⟩
    · refine ⟨_, rfl, _, rfl, ?_⟩
      rw [show decide (V.int ((i : Nat) : Int) = V.non) = false by simp]
      refine iteF ?_
      refine ⟨_, rfl, p, W.dx, _, rfl, D.ins, nf (by decide +kernel) (by decide +kernel) (by decide +kernel) (by decide +kernel) (by decide +kernel), _, rfl, p, secs, cars, i, rfl, ⟨H0, W, D⟩, hi, ?_⟩
      refine ⟨_, rfl, p, C, W.dx, _, _, rfl, D.ins, R.cl, R.nT, df5_ticks _ _ _ _ _, _, rfl, W.lt, _, _, .ref td, rfl, rfl, SqL.of D.lt, atI_nat (map_at V.ref htd), ?_⟩
      exact ⟨_, rfl, td, _, rfl, gk a1 (a2 n hn), k⟩
end
end Sl


set_option Elab.async false
set_option linter.all false
set_option maxRecDepth 100000
set_option maxHeartbeats 1000000
/-! for and if within a generator's body. -/
namespace OwnR
open PySem PySem.Spec PyProof.Rows L2 GenW
section
variable {X : Cx}
def tGIf (c : TT) (a b : TGn) : TGn := fun D ys σ H => c σ H fun d H1 => if d = true then a D ys σ H1 else b D ys σ H1
theorem gs_if {test : Expr} {a b : List Stmt} {pos : Pos} {tc : TT} {ta tb : TGn} (hc : PT X test tc) (ha : GSs X a ta) (hb : GSs X b tb) : GS X (.If test a b pos) (tGIf tc ta tb) := by
  refine ⟨fun A S ip R n ys s₀ c fs K J gd lv s σ H D g hn k hI ht => ?_⟩
  obtain ⟨acc, cc, r, I⟩ := hI
  rw [exec_If]
  refine seg_bind_wrap (wpAny_standAt ?_)
  refine seg_bind_wrap ?_
  rw [g.over]
  refine wpAny_mono (hc.run _ s σ H _ I ht) (fun d s' hd => ?_) fun x s' hx => k.exc n s₀ x s' hx
  obtain ⟨H2, I2, q2⟩ := hd
  cases d with
  | true => exact ha.run A S ip R n ys s₀ c fs K J gd lv s' σ H2 D g hn k ⟨acc, cc, r, I2⟩ q2
  | false => exact hb.run A S ip R n ys s₀ c fs K J gd lv s' σ H2 D g hn k ⟨acc, cc, r, I2⟩ q2
end
section
variable {prog : Program} {w : World} {A : Around} {R : GenEnd} {Y : Protocol} {n : Nat} {s₀ : Shared} {fs : List Frame} {s : Shared} {env : Env}
abbrev noteE (env : Env) (e : Value) : Sem PySem.Fin := (do noteFrame e env; theTreesLotGoes e : Sem Unit).wrap (fun _ => .raise e) .raise id id
theorem seg_forTurn {tg : Expr} {it : Value} {body : List Stmt}
    (h : wpAny (model prog w) (A.over (.forLoop tg it body [] env) fs) (pyNext it) (fun r s1 => match r with
        | none => Seg (model prog w) A R Y n s₀ (.forLoop tg it body [] env) (.pure (.again (.block [] env))) fs s1
        | some v => wpAny (model prog w) (A.over (.forLoop tg it body [] env) fs) (letOwnedTupleGo tg it v) (fun _ s2 => wpAny (model prog w) (A.over (.forLoop tg it body [] env) fs) (assign tg env v) (fun _ s3 =>
            Seg (model prog w) A R Y n s₀ (.forLoop tg it body [] env) ((execs body env).wrap (fun f => match f with
              | .next | .cont => .pure (.again (.forLoop tg it body [] env))
              | .brk => .pure (.done .next)
              | .ret v => .pure (.done (.ret v))) (noteE env) id id) fs s3)
            (fun x s' => Seg (model prog w) A R Y n s₀ (.forLoop tg it body [] env) (noteE env x) fs s') s2)
          (fun x s' => Seg (model prog w) A R Y n s₀ (.forLoop tg it body [] env) (noteE env x) fs s') s1)
      (fun x s' => Seg (model prog w) A R Y n s₀ (.forLoop tg it body [] env) (noteE env x) fs s') s) :
    Seg (model prog w) A R Y n s₀ (.forLoop tg it body [] env) ((model prog w).den (.forLoop tg it body [] env)) fs s := by
  have ee : ∀ x s', Seg (model prog w) A R Y n s₀ (.forLoop tg it body [] env) (noteE env x) fs s' → Seg (model prog w) A R Y n s₀ (.forLoop tg it body [] env) ((do noteFrame x env; theTreesLotGoes x : Sem Unit).bind fun _ => (.raise x : Sem PySem.Fin)) fs s' := fun x s' hx => by
    rw [Sem.bind_eq_wrap]
    exact hx
  show Seg _ A R Y n s₀ _ ((forTurn tg it body [] env).onRaise (fun x => do noteFrame x env; theTreesLotGoes x)) fs s
  unfold forTurn
  rw [Sem.onRaise_eq_wrap]
  refine seg_bind_wrap (wpAny_standAt ?_)
  refine seg_bind_wrap (wpAny_onRaise (wpAny_mono h (fun r s1 h1 => ?_) fun x s' hx => wpAny_standAt (ee x s' hx)))
  cases r with
  | none => exact h1
  | some v =>
    refine seg_bind_wrap (wpAny_mono h1 (fun _ s2 h2 => ?_) fun x s' hx => ee x s' hx)
    refine seg_bind_wrap (wpAny_mono h2 (fun _ s3 h3 => ?_) fun x s' hx => ee x s' hx)
    rw [Sem.bind_eq_wrap', Sem.wrap_wrap]
    rw [Sem.wrap_congr (execs body env) _ _ (K' := fun f => match f with
            | .next | .cont => .pure (.again (.forLoop tg it body [] env))
            | .brk => .pure (.done .next)
            | .ret v => .pure (.done (.ret v))) (H' := noteE env)
        (fun f => by cases f <;> rfl)
        (fun e => by first | exact Sem.bind_eq_wrap _ _ | (show (do noteFrame e env; theTreesLotGoes e : Sem Unit).bind (fun _ => .raise e) = _; rw [Sem.bind_eq_wrap]))]
    exact h3
end
section
variable {X : Cx}
def tGFor (wi : TI) (g : TG) (tb : TGn) : TGn := fun D ys σ H => wi σ H fun J H1 => ∃ W : Nat → Nat → List V → L2.St → Hp → Prop, (∃ m, W 0 m ys σ H1) ∧ ∀ i m ys σ H, W i m ys σ H →
  (J.stop i H ∧ D.nx ys σ H) ∨ (J.go i H ∧ ∃ N : List V → L2.St → Hp → Prop, (∀ ys' σ' H', N ys' σ' H' → ∃ m', m' < m ∧ W (i + 1) m' ys' σ' H') ∧ ∀ x H', J.yld i H x H' → g x σ H' fun σ2 H2 => tb { D with nx := N, ct := N, bk := D.nx } ys σ2 H2)
theorem gi_fewer {S : Addr} {ip pl : List (Addr × Obj)} {ys : List V} {σ : L2.St} {H : Hp} {s : Shared} (h : GI X S (ip ++ pl) ys σ H s) : GI X S ip ys σ H s := by
  obtain ⟨acc, c, r, I⟩ := h
  exact ⟨acc, c, r, Inv.unpinned (pins := (S, lstObj acc c) :: ip) (pl := pl) I⟩
theorem gs_for {tg iter : Expr} {body : List Stmt} {wi : TI} {g : TG} {tb : TGn} {pos : Pos} (hp : PassesOwn (model X.prog X.w) X.A X.env X.xe) (hc : X.calm = true) (hi : PI X tg iter wi) (hg : PG X tg g) (hb : GSs X body tb)
    (hs : ∀ x, foldedSetIterable iter X.env x = pure x := by intro _; rfl) : GS X (.For tg iter body [] pos) (tGFor wi g tb) := by
  refine ⟨fun A S ip R n ys s₀ c fs K J gd lv s σ H D gc hn k hI ht => ?_⟩
  obtain ⟨acc, cc, r, I⟩ := hI
  rw [exec_For]
  refine seg_bind_wrap (wpAny_standAt ?_)
  refine seg_bind_wrap ?_
  rw [gc.over]
  refine wpAny_mono (hi.run _ s σ H _ I ht) (fun v s1 h1 => ?_) fun x s' hx => k.exc n s₀ x s' hx
  refine seg_bind_wrap (wpAny_of_eq (hs v) ?_)
  refine seg_bind_wrap (wpAny_standAt ?_)
  refine seg_bind_wrap (wpAny_holding ?_)
  rw [gc.over]
  refine wpAny_mono h1 (fun itv s2 h2 => ?_) fun x s' hx => k.exc n s₀ x s' hx
  obtain ⟨it, fp, tn, J', H2, e, I2, T, st2, f2, W, ⟨m0, w0⟩, turn⟩ := h2
  subst e
  refine seg_call fun p => ?_
  have gl := fun (kk : Result → Sem PySem.Fin) => gc_loop (k := kk) (c' := .forLoop tg (.ref it) body [] X.env) (l := lv []) (kp := []) (p := p) gc rfl rfl
  have glb := fun (kk : Result → Sem PySem.Fin) => gc_loop (k := kk) (c' := .block [] X.env) (l := lv []) (kp := []) (p := p) gc rfl rfl
  have nS : ∀ b ∈ fp, b ≠ S := fun b hb => ((f2 b hb).2.2.2.2.2 (S, lstObj acc cc) (List.mem_append_right _ List.mem_cons_self)).symm
  have stat : ∀ {H' : Hp} {a2 : Array Value} {c2 : Nat}, (∀ b ∈ fp, H' b = none) → ∀ b ∈ fp, FpOk X ((S, lstObj a2 c2) :: ip) H' b := fun hn b hb => by
    obtain ⟨_, q1, q2, q3, q4, q5⟩ := f2 b hb
    refine ⟨hn b hb, q1, q2, q3, q4, fun p hp => ?_⟩
    rcases List.mem_append.mp hp with z | z
    · exact q5 p (List.mem_append_left _ z)
    · rcases List.mem_cons.mp z with z | z
      · rw [z]
        exact (nS b hb).symm
      · exact q5 p (List.mem_append_right _ (List.mem_cons_of_mem _ z))
  have loop : ∀ (m i n : Nat) (ys : List V) (s₀ s : Shared) (σ : L2.St) (H : Hp), n + ys.length = sizeLine → W i m ys σ H → GI X S ip ys σ H s → tn i s.heap → (∀ b ∈ fp, H b = none) →
      Seg (model X.prog X.w) A R (GY X S) n s₀ (.forLoop tg (.ref it) body [] X.env) ((model X.prog X.w).den (.forLoop tg (.ref it) body [] X.env))
        (.ret (fun r => ((match r with | .ok f => (.pure f : Sem Flow) | .error e => .raise e).onRaise (cameBack X.env)).wrap K J gd lv) none (gd false) (lv []) c p [] :: fs) s := by
    intro m
    induction m using Nat.strongRecOn with
    | ind m ih =>
      intro i n ys s₀ s σ H hn w hI st fr
      have ee : ∀ (n : Nat) (s₀ : Shared) (x : Value) (s' : Shared), X.xe x s' → Seg (model X.prog X.w) A R (GY X S) n s₀ (.forLoop tg (.ref it) body [] X.env) (noteE X.env x)
          (.ret (fun r => ((match r with | .ok f => (.pure f : Sem Flow) | .error e => .raise e).onRaise (cameBack X.env)).wrap K J gd lv) none (gd false) (lv []) c p [] :: fs) s' := fun n s₀ x s' hx => by
        refine seg_wrap ?_
        rw [(gl _).over]
        refine wpAny_bind (wpAny_mono (hp x s' hx) (fun _ s'' hcb => wpAny_theTreesLotGoes ?_) fun y s'' hcb => ?_)
        · exact seg_leaf (.error x) (seg_cameBack gc k hcb)
        · exact seg_leaf (.error y) (seg_cameBack gc k hcb)
      refine seg_forTurn ?_
      rw [(gl _).over]
      obtain ⟨acc, cc, r, I⟩ := hI
      rcases turn i m ys σ H w with ⟨stop, qn⟩ | ⟨go, N, hN, step⟩
      · refine wpAny_mono (T.done X rfl rfl rfl hc i _ s σ H X.xe I (stat fr) st stop) (fun r s4 ⟨hr, I4⟩ => ?_) fun x s' hx => ee n s₀ x s' hx
        subst hr
        refine seg_again rfl ?_
        exact seg_leaf (.ok .next) (k.ok n ys s₀ s4 .next hn ⟨σ, H, ⟨acc, cc, r, I4⟩, qn⟩)
      · refine wpAny_mono (T.item X rfl rfl rfl hc i _ s σ H X.xe I (stat fr) st go) (fun r0 s4 ⟨u, hr, h4⟩ => ?_) fun x s' hx => ee n s₀ x s' hx
        subst hr
        refine wpAny_mono h4 (fun _ s5 ⟨x, H5, I5, r5, y5, st5, fr5⟩ => ?_) fun x s' hx => ee n s₀ x s' hx
        have I5' := I5.pinned (stat fr5) (T.obj _ _ st5)
        refine wpAny_mono (hg.run _ s5 σ H5 x u _ I5' r5 (step x H5 y5)) (fun _ s6 ⟨σ6, H6, I6, q6⟩ => ?_) fun x s' hx => ee n s₀ x s' hx
        have gl2 : GC X S (ip ++ pinsAt fp s5.heap) A (.forLoop tg (.ref it) body [] X.env) (.ret (fun r => ((match r with | .ok f => (.pure f : Sem Flow) | .error e => .raise e).onRaise (cameBack X.env)).wrap K J gd lv) none (gd false) (lv []) c p [] :: fs) id :=
          { gl _ with ip := fun q hq => (List.mem_append.mp hq).elim (fun z => gc.ip q z) fun z => nS _ (of_pinsAt z).1 }
        have again : ∀ {n' : Nat} {ys' : List V} {s₀' s7 : Shared} {σ7 : L2.St} {H7 : Hp}, n' + ys'.length = sizeLine → GI X S (ip ++ pinsAt fp s5.heap) ys' σ7 H7 s7 → N ys' σ7 H7 →
            Seg (model X.prog X.w) A R (GY X S) n' s₀' (.forLoop tg (.ref it) body [] X.env) (.pure (.again (.forLoop tg (.ref it) body [] X.env)))
              (.ret (fun r => ((match r with | .ok f => (.pure f : Sem Flow) | .error e => .raise e).onRaise (cameBack X.env)).wrap K J gd lv) none (gd false) (lv []) c p [] :: fs) s7 := fun {n' ys' s₀' s7 σ7 H7} hn' G7 n7 => by
          obtain ⟨m', hm, w7⟩ := hN ys' σ7 H7 n7
          obtain ⟨acc7, c7, r7, I7⟩ := id G7
          refine seg_again rfl (ih m' hm (i + 1) n' ys' s₀' s7 σ7 H7 hn' w7 (gi_fewer G7) (T.keep _ _ _ st5 fun b hb o e => ?_) fun b hb => ?_)
          · exact (I7.pin (b, o) (List.mem_append_right _ (List.mem_cons_of_mem _ (List.mem_append_right _ (mem_pinsAt hb e))))).1
          · obtain ⟨o, e, d⟩ := T.obj _ _ st5 b hb
            exact (I7.pin (b, o) (List.mem_append_right _ (List.mem_cons_of_mem _ (List.mem_append_right _ (mem_pinsAt hb e))))).2.1
        refine hb.run A S (ip ++ pinsAt fp s5.heap) R n ys s₀ _ _ _ _ id id s6 σ6 H6 { D with nx := N, ct := N, bk := D.nx } gl2 hn ⟨fun n' ys' s₀' s7 f hn' hs => ?_, fun n' s₀' x s7 hx => ee n' s₀' x s7 hx⟩ ⟨acc, cc, r, I6⟩ q6
        cases f with
        | next => obtain ⟨σ7, H7, G7, n7⟩ := hs; exact again hn' G7 n7
        | cont => obtain ⟨σ7, H7, G7, n7⟩ := hs; exact again hn' G7 n7
        | brk => obtain ⟨σ7, H7, G7, q7⟩ := hs; exact seg_leaf (.ok .next) (k.ok n' ys' s₀' s7 .next hn' ⟨σ7, H7, (gi_fewer G7), q7⟩)
        | ret v => obtain ⟨x7, σ7, H7, G7, r7, q7⟩ := hs; exact seg_leaf (.ok (.ret v)) (k.ok n' ys' s₀' s7 (.ret v) hn' ⟨x7, σ7, H7, (gi_fewer G7), r7, q7⟩)
  exact loop m0 0 n ys s₀ s2 σ H2 hn w0 ⟨acc, cc, r, I2⟩ st2 fun b hb => (f2 b hb).1
/-- over any walk -/
theorem gfor_it {J : It} {n : Nat} {G : Hp → Prop} {Y : Nat → Hp → V → Hp → Prop} (w : Walk J n G Y) {g : TG} {tb : TGn} {D : GEnds} {ys : List V} {σ : L2.St} {H : Hp} (Pv : Nat → List V → L2.St → Hp → Prop) (h0 : Pv 0 ys σ H) (hG : ∀ i ys σ H, i ≤ n → Pv i ys σ H → G H)
    (hs : ∀ i x ys σ H H', i < n → Pv i ys σ H → Y i H x H' → g x σ H' fun σ2 H2 => tb { D with nx := Pv (i + 1), ct := Pv (i + 1), bk := D.nx } ys σ2 H2) (hd : ∀ ys σ H, Pv n ys σ H → D.nx ys σ H) :
    ∃ W : Nat → Nat → List V → L2.St → Hp → Prop, (∃ m, W 0 m ys σ H) ∧ ∀ i m ys σ H, W i m ys σ H →
      (J.stop i H ∧ D.nx ys σ H) ∨ (J.go i H ∧ ∃ N : List V → L2.St → Hp → Prop, (∀ ys' σ' H', N ys' σ' H' → ∃ m', m' < m ∧ W (i + 1) m' ys' σ' H') ∧ ∀ x H', J.yld i H x H' → g x σ H' fun σ2 H2 => tb { D with nx := N, ct := N, bk := D.nx } ys σ2 H2) := by
  refine ⟨fun i m ys σ H => m = n - i ∧ i ≤ n ∧ Pv i ys σ H, ⟨n, by simp, Nat.zero_le _, h0⟩, ?_⟩
  rintro i m ys σ H ⟨rfl, hi, p⟩
  have q := hG i ys σ H hi p
  by_cases hlt : i < n
  · exact .inr ⟨w.goes i H hlt q, Pv (i + 1), fun ys' σ' H' p' => ⟨n - (i + 1), by omega, rfl, hlt, p'⟩, fun x H' y => hs i x ys σ H H' hlt p (w.yields i H x H' hlt q y)⟩
  · have e : i = n := by omega
    subst e
    exact .inl ⟨w.stops H q, hd ys σ H p⟩
end
end OwnR

set_option Elab.async false
set_option linter.all false
set_option maxRecDepth 100000
set_option maxHeartbeats 1000000
namespace Sl
open PySem PySem.Spec L2 OwnR LamX
/-! ### overtakings -/
def posL (n : Str) : List Str → Nat
  | [] => 0
  | a :: r => if a = n then 0 else posL n r + 1
theorem posL_at {n : Str} : ∀ {l : List Str}, n ∈ l → l[posL n l]? = some n
  | a :: r, h => by
    unfold posL
    by_cases e : a = n
    · rw [if_pos e, e]
      rfl
    · rw [if_neg e]
      have hm : n ∈ r := (List.mem_cons.mp h).elim (fun z => absurd z.symm e) id
      have := posL_at hm
      simpa using this
theorem posL_not {n : Str} : ∀ {l : List Str} {m : Nat} {z : Str}, l[m]? = some z → m < posL n l → z ≠ n
  | a :: r, m, z, h, hm => by
    unfold posL at hm
    by_cases e : a = n
    · rw [if_pos e] at hm
      omega
    · rw [if_neg e] at hm
      cases m with
      | zero =>
        have : a = z := by simpa using h
        rw [← this]
        exact e
      | succ m => exact posL_not (l := r) (m := m) (by simpa using h) (by omega)
abbrev OvT := Nat × Str × Str
def ovIn (after : List Str) (k i : Nat) (n : Str) (l : List Str) : List OvT := (l.filter fun o => decide (o ∈ after.drop (i + 1))).map fun o => (k, n, o)
def ovMid (before after : List Str) (k i : Nat) : List OvT := match after[i]? with
  | some n => ovIn after k i n (before.take (posL n before))
  | none => []
def ovSec (before after : List Str) (k i : Nat) : List OvT := (List.range i).flatMap (ovMid before after k)
def ovAll (secs : List Sec) (cars : List Car) (i : Nat) : List OvT := (List.range i).flatMap fun k => ovSec (plcC secs cars k).ord (plcC secs cars (k + 1)).ord k cars.length
theorem ovIn_snoc (after : List Str) (k i : Nat) (n : Str) (l : List Str) (o : Str) : ovIn after k i n (l ++ [o]) = ovIn after k i n l ++ (if o ∈ after.drop (i + 1) then [(k, n, o)] else []) := by
  unfold ovIn
  rw [List.filter_append, List.map_append]
  by_cases h : o ∈ after.drop (i + 1)
  · rw [if_pos h]
    simp [h]
  · rw [if_neg h]
    simp [h]
theorem ovSec_succ (before after : List Str) (k i : Nat) : ovSec before after k (i + 1) = ovSec before after k i ++ ovMid before after k i := by
  unfold ovSec
  rw [List.range_succ, List.flatMap_append]
  simp
theorem ovAll_succ (secs : List Sec) (cars : List Car) (i : Nat) : ovAll secs cars (i + 1) = ovAll secs cars i ++ ovSec (plcC secs cars i).ord (plcC secs cars (i + 1)).ord i cars.length := by
  unfold ovAll
  rw [List.range_succ, List.flatMap_append]
  simp
theorem ovIn_len (after : List Str) (k i : Nat) (n : Str) (l : List Str) : (ovIn after k i n l).length ≤ l.length := by
  unfold ovIn
  rw [List.length_map]
  exact List.length_filter_le _ _
theorem ovMid_len {before : List Str} (after : List Str) (k i : Nat) {b : Nat} (h : before.length ≤ b) : (ovMid before after k i).length ≤ b := by
  unfold ovMid
  split
  · refine Nat.le_trans (ovIn_len _ _ _ _ _) ?_
    rw [List.length_take]
    omega
  · exact Nat.zero_le _
theorem ovSec_len {before : List Str} (after : List Str) (k : Nat) {b : Nat} (h : before.length ≤ b) : ∀ i, (ovSec before after k i).length ≤ i * b
  | 0 => by simp [ovSec]
  | i + 1 => by
    have h1 := ovSec_len after k h i
    have h2 := ovMid_len after k i h
    rw [ovSec_succ, List.length_append, Nat.succ_mul]
    omega
theorem ovAll_len {secs : List Sec} {cars : List Car} (h : cars.length ≤ 10) : ∀ i, (ovAll secs cars i).length ≤ i * 100
  | 0 => by simp [ovAll]
  | i + 1 => by
    have h1 := ovAll_len (secs := secs) h i
    have h2 : (ovSec (plcC secs cars i).ord (plcC secs cars (i + 1)).ord i cars.length).length ≤ cars.length * 10 := ovSec_len _ _ (by
      rw [(plcC_perm secs cars i).length_eq]
      unfold names
      rw [List.length_map]
      exact h) _
    rw [ovAll_succ, List.length_append, Nat.succ_mul]
    omega
def ovV (q : OvT) : List V := [.int (q.1 : Nat), .str q.2.1, .str q.2.2]
def OvAt (H : Hp) (ys : List V) (l : List OvT) : Prop := ys.length = l.length ∧ ∀ (j : Nat) (y : V) (q : OvT), ys[j]? = some y → l[j]? = some q → ∃ t, y = .ref t ∧ H t = some (.tup (ovV q))
theorem OvAt.keep {H H' : Hp} {ys : List V} {l : List OvT} (h : OvAt H ys l) (e : Same H H') : OvAt H' ys l := ⟨h.1, fun j y q e1 e2 => let ⟨t, z1, z2⟩ := h.2 j y q e1 e2; ⟨t, z1, e _ _ z2⟩⟩
theorem OvAt.more {H : Hp} {ys : List V} {l : List OvT} {q : OvT} {t : Addr} (h : OvAt H ys l) (e : H t = some (.tup (ovV q))) : OvAt H (ys ++ [.ref t]) (l ++ [q]) := by
  refine ⟨by rw [List.length_append, List.length_append, h.1]; rfl, fun j y p e1 e2 => ?_⟩
  rcases snoc_get e1 with e1 | ⟨hj, rfl⟩
  · have hj := (List.getElem?_eq_some_iff.mp e1).1
    rw [List.getElem?_append_left (by rw [← h.1]; exact hj)] at e2
    exact h.2 j y p e1 e2
  · rcases snoc_get e2 with e2 | ⟨_, rfl⟩
    · have := (List.getElem?_eq_some_iff.mp e2).1
      rw [h.1] at hj
      omega
    · exact ⟨t, rfl, e⟩
theorem cut_to {l : List V} {k : Nat} (h : k ≤ l.length) : cutV l none (some (k : Nat)) = l.take k := by
  unfold cutV
  have e : HT.sIx l.length l.length (some ((k : Nat) : Int)) = k := by
    show (if ((k : Nat) : Int) < 0 then (((k : Nat) : Int) + ((l.length : Nat) : Int)).toNat else min (((k : Nat) : Int)).toNat l.length) = k
    rw [if_neg (by omega)]
    omega
  have e0 : HT.sIx l.length 0 none = 0 := rfl
  rw [e, e0]
  simp
theorem cut_from {l : List V} {k : Nat} (h : k ≤ l.length) : cutV l (some (k : Nat)) none = l.drop k := by
  unfold cutV
  have e : HT.sIx l.length 0 (some ((k : Nat) : Int)) = k := by
    show (if ((k : Nat) : Int) < 0 then (((k : Nat) : Int) + ((l.length : Nat) : Int)).toNat else min (((k : Nat) : Int)).toNat l.length) = k
    rw [if_neg (by omega)]
    omega
  have e0 : HT.sIx l.length l.length none = l.length := rfl
  rw [e, e0]
  apply List.take_of_length_le
  rw [List.length_drop]
  exact Nat.le_refl _
section
variable {P : Program} {w : World} {K : PySem.W.Frag} {mg : Str → Option Value} {base : Heap}
end
end Sl

set_option Elab.async false
set_option linter.all false
set_option maxRecDepth 100000
set_option maxHeartbeats 1000000
namespace Sl
open PySem PySem.Spec L2 OwnR LamX
/-! ### losses -/
def unitsN (secs : List Sec) : Nat := (secs.map (·.2)).sum
def lossOf (secs : List Sec) (cars : List Car) (c : Car) : Int := (plcC secs cars secs.length).tk c.name - startOf cars c.name - c.pace * ((unitsN secs : Nat) : Int)
def lossK (secs : List Sec) (cars : List Car) : List (Key × V) := cars.map fun c => (Sum.inr c.name, V.int (lossOf secs cars c))
theorem sum_int : ∀ l : List Nat, (l.map fun n => ((n : Nat) : Int)).sum = ((l.sum : Nat) : Int)
  | [] => rfl
  | a :: r => by
    rw [List.map_cons, List.sum_cons, List.sum_cons, sum_int r]
    omega
theorem gkR {H : Hp} {a : Addr} {kvs : List (Key × V)} {n : Str} {v : V} (e : Rd H a (.dK kvs)) (h : valV kvs (Sum.inr n : Key) = some v) : DGet H a (.str n) (some v) := .inl ⟨kvs, Sum.inr n, e, rfl, h.symm⟩
section
variable {P : Program} {w : World} {K : PySem.W.Frag} {mg : Str → Option Value} {base : Heap}
def spLosses (C : Addr) : Sp := fun vs H Q _ => ∃ (p : Addr) (secs : List Sec) (cars : List Car), vs = [.ref p] ∧ DA C H p secs cars ∧ CarsOk cars ∧ secs.length ≤ 12 ∧ ∀ H' d, Same H H' → H d = none → H' d = some (.dK (lossK secs cars)) → Q (.ref d) H'
def nLosses : List Str := ["self", "units", "starts", "arrivals", "kind", "length", "name", "pace"]
theorem scLosses : FnScope nLosses ["self"] (defScope sDLosses) := ⟨rfl, rfl, rfl, by decide +kernel, rfl, by decide +kernel, by decide +kernel⟩
theorem ok_losses {f C : Addr} {fd : FuncData} (F : Fun K "losses" "Drive.losses" sDLosses f fd) (M : Mg mg) (R : DriveT K mg C) : FnOk P w K mg base CX0 1 f fd ["self"] (spLosses C) := by
  refine F.ok scLosses (fun vs H Q E h => ?_) (fun cdv A outer s H vs Q E hr h => ?_)
  · obtain ⟨p, secs, cars, rfl, _⟩ := h
    rfl
  · obtain ⟨p, secs, cars, rfl, ⟨H0, W, D⟩, CO, h12, k⟩ := h
    have nd := scLosses.nd
    have hu := hu_of hr
    refine ⟨_, pss_cons (ps_set (i := 1) nd rfl (.inr rfl) (pe_callB (cr_sum rfl) (by rfl) M.sum PyProof.Rows.boot_sum (pa_cons (pe_lc (own := [("kind", 4), ("length", 5)]) (g := gTup K 2 (gCons (gName 4) (gCons (gName 5) gNil))) (tt := tYes) (te := tVar 5) (by rfl) nd (pi_tup (pe_fld (pv 0) rfl)) (blkOk_by (N := nLosses) (sc := defScope sDLosses) (by decide +kernel))
        (fun _ _ _ _ _ => pg_tup rfl (pgs_cons (pg_name (i := 4) nd rfl (Or.inl rfl)) (pgs_cons (pg_name (i := 5) nd rfl (Or.inl rfl)) pgs_nil))) (fun _ _ _ _ _ => pts_nil) (fun _ _ _ _ _ => pv 5)) pa_nil)))
      (pss_cons (ps_set (i := 2) nd rfl (.inr rfl) (pe_ix ix_list (pe_fld (pv 0) rfl) pe_int (fun _ _ => rfl)))
      (pss_cons (ps_set (i := 3) nd rfl (.inr rfl) (pe_ix ix_list (pe_fld (pv 0) rfl) (pe_un un_neg pe_int) (fun _ _ => rfl)))
      (pss_one (ps_ret (pe_lock (pe_dc (own := [("name", 6), ("pace", 7)]) (g := gTup K 2 (gCons (gName 6) (gCons (gName 7) gNil))) (tt := tYes)
          (tk := tVar 6) (tv := tOp (rI0 fun i j => .int (i - j)) (tOp (rI0 fun i j => .int (i - j)) (tDGet (tVar 3) (tVar 6)) (tDGet (tVar 2) (tVar 6))) (tOp (rI CMul fun i j => .int (i * j)) (tVar 7) (tVar 1)))
          (by rfl) nd (pi_items (pe_fld (pv 0) rfl)) (blkOk_by (N := nLosses) (sc := defScope sDLosses) (by decide +kernel))
          (fun _ _ _ _ _ => pg_tup rfl (pgs_cons (pg_name (i := 6) nd rfl (Or.inl rfl)) (pgs_cons (pg_name (i := 7) nd rfl (Or.inl rfl)) pgs_nil))) (fun _ _ _ _ _ => pts_nil) (fun _ _ _ _ _ => pv 6)
          (fun _ _ _ _ _ => pe_op op_sub (pe_op op_sub (pe_dget hu (pv 3) (pv 6) (fun _ _ => rfl)) (pe_dget hu (pv 2) (pv 6) (fun _ _ => rfl))) (pe_op op_mul (pv 7) (pv 1))))))))), ?_⟩
    obtain ⟨us, u1, u2, u3⟩ := D.sec
    have ndn : (names cars).Nodup := CO.nd
    have e12 : (us.map V.ref).length = secs.length := by rw [List.length_map, u2]
    refine ⟨_, rfl, p, C, W.dx, _, _, rfl, D.ins, R.cl, R.nS, df5_sections _ _ _ _ _, W.sc, rfl, ⟨_, SqT.of u1⟩, fun L hL => ?_⟩
    refine lc_it walk_tup (fun i H1 => Same H H1 ∧ H1 L = some (.lst ((secs.take i).map fun s => V.int ((s.2 : Nat) : Int))))
      ⟨fun b o e => by rw [upd_ne (ne_of_none e hL)]; exact e, upd_same⟩ (fun i H1 _ ⟨k1, _⟩ => SqT.of (k1 _ _ u1)) ?_ ?_
    · rintro i y H1 H2 hi ⟨k1, hL1⟩ ⟨e, hy⟩
      subst e
      obtain ⟨t, ht, rfl⟩ : ∃ t, us[i]? = some t ∧ y = V.ref t := by
        rw [List.getElem?_map] at hy
        obtain ⟨t, z1, z2⟩ := Option.map_eq_some_iff.mp hy
        exact ⟨t, z1, z2.symm⟩
      have hic : i < secs.length := by rw [e12] at hi; exact hi
      have hc : secs[i]? = some secs[i] := List.getElem?_eq_getElem hic
      have hct := k1 _ _ (u3 i t _ ht hc)
      refine ⟨t, _, rfl, SqT.of hct, rfl, _, _, rfl, _, _, rfl, rfl, rfl, yes_of ?_⟩
      refine ⟨_, rfl, _, hL1, by rw [List.length_map, List.length_take]; exact small1000 (by omega), fun b o e => by rw [upd_ne (ne_of_none e hL)]; exact k1 _ _ e, ?_⟩
      rw [upd_same, tk1 hc, List.map_append]
      rfl
    · rintro H1 ⟨k1, hL1⟩
      rw [e12, List.take_length] at hL1
      obtain ⟨td0, htd0⟩ := D.tdk (k := 0) (Nat.zero_le _)
      obtain ⟨kv0, a0, b0⟩ := D.tk 0 td0 htd0
      obtain ⟨td, htd⟩ := D.tdk (k := secs.length) (Nat.le_refl _)
      obtain ⟨kv1, a1, b1⟩ := D.tk secs.length td htd
      refine ⟨L, secs.map fun s => ((s.2 : Nat) : Int), rfl, SqL.of (by rw [hL1, List.map_map]; rfl), ?_⟩
      have eS : (secs.map fun s => ((s.2 : Nat) : Int)).sum = ((unitsN secs : Nat) : Int) := by
        unfold unitsN
        rw [← sum_int, List.map_map]
        rfl
      rw [eS]
      refine ⟨_, rfl, p, C, W.dx, _, _, rfl, k1 _ _ D.ins, R.cl, R.nT, df5_ticks _ _ _ _ _, W.lt, _, ((0 : Nat) : Int), .ref td0, rfl, rfl, SqL.of (k1 _ _ D.lt), atI_nat (map_at V.ref htd0), ?_⟩
      refine ⟨_, rfl, p, C, W.dx, _, _, rfl, k1 _ _ D.ins, R.cl, R.nT, df5_ticks _ _ _ _ _, _, rfl, W.lt, _, _, .ref td, rfl, rfl, SqL.of (k1 _ _ D.lt), atI_lst (by rw [List.length_map, D.ltl]) (map_at V.ref htd), ?_⟩
      refine ⟨W.pd, _, k1 _ _ D.pac, True.intro, fun od => ?_⟩
      have npd : ∀ b o, H b = some o → b ≠ W.pd → upd H1 W.pd (.frz od (.dK (paceK cars))) b = some o := fun b o e n => by rw [upd_ne n]; exact k1 _ _ e
      have hpz : upd H1 W.pd (.frz od (.dK (paceK cars))) W.pd = some (.frz od (.dK (paceK cars))) := upd_same
      have nip : p ≠ W.pd := ne_of D.ins D.pac (by intro z; cases z)
      generalize upd H1 W.pd (.frz od (.dK (paceK cars))) = H2 at npd hpz ⊢
      refine ⟨_, rfl, p, C, W.dx, _, _, rfl, npd _ _ D.ins nip, R.cl, R.nP, df5_paces _ _ _ _ _, W.pd, od, _, rfl, hpz, fun Dd hDd => ?_⟩
      have nD : W.pd ≠ Dd := ne_of_none hpz hDd
      have eln : (paceK cars).length = cars.length := by unfold paceK; rw [List.length_map]
      refine dc_it walk_items (fun i H3 => (∀ b o, H b = some o → b ≠ W.pd → H3 b = some o) ∧ H3 W.pd = some (.frz od (.dK (paceK cars))) ∧ H3 Dd = some (.dK ((cars.take i).map fun c => ((Sum.inr c.name : Key), V.int (lossOf secs cars c)))))
        ⟨fun b o e n => by rw [upd_ne (ne_of_none (npd _ _ e n) hDd)]; exact npd _ _ e n, by rw [upd_ne nD]; exact hpz, upd_same⟩ (fun i H3 _ ⟨_, q, _⟩ => q) ?_ ?_
      · rintro i y H3 H4 hi ⟨k3, z3, d3⟩ ⟨T, x1, x2, rfl, hT, rfl, e1, e2⟩
        have hic : i < cars.length := by rw [eln] at hi; exact hi
        have hc : cars[i]? = some cars[i] := List.getElem?_eq_getElem hic
        have hk : (paceK cars)[i]? = some (Sum.inr cars[i].name, V.int cars[i].pace) := by unfold paceK; rw [List.getElem?_map, hc]; rfl
        have e1 : ((paceK cars)[i]?).map (fun kv => kV kv.1) = some x1 := e1
        have e2 : ((paceK cars)[i]?).map Prod.snd = some x2 := e2
        rw [hk] at e1 e2
        have e1' : x1 = V.str cars[i].name := (Option.some.inj e1).symm
        have e2' : x2 = V.int cars[i].pace := (Option.some.inj e2).symm
        subst e1' e2'
        have k4 : ∀ b o, H b = some o → b ≠ W.pd → upd H3 T (.tup [.str cars[i].name, .int cars[i].pace]) b = some o := fun b o e n => by rw [upd_ne (ne_of_none (k3 _ _ e n) hT)]; exact k3 _ _ e n
        have z4 : upd H3 T (.tup [.str cars[i].name, .int cars[i].pace]) W.pd = some (.frz od (.dK (paceK cars))) := by rw [upd_ne (ne_of_none z3 hT)]; exact z3
        have d4 : upd H3 T (.tup [.str cars[i].name, .int cars[i].pace]) Dd = some (.dK ((cars.take i).map fun c => ((Sum.inr c.name : Key), V.int (lossOf secs cars c)))) := by rw [upd_ne (ne_of_none d3 hT)]; exact d3
        refine ⟨T, _, rfl, SqT.of upd_same, rfl, _, _, rfl, _, _, rfl, rfl, rfl, ?_⟩
        generalize upd H3 T (.tup [.str cars[i].name, .int cars[i].pace]) = H5 at k4 z4 d4 ⊢
        have rd : ∀ b kv, H b = some (.dK kv) → Rd H5 b (.dK kv) := fun b kv e => by
          by_cases eb : b = W.pd
          · have : kv = paceK cars := by
              have q := D.pac
              rw [← eb, e] at q
              cases q
              rfl
            rw [this, eb]
            exact .inr ⟨_, z4⟩
          · exact .inl (k4 _ _ e eb)
        have hnm : cars[i].name ∈ names cars := List.mem_map.mpr ⟨_, List.getElem_mem hic, rfl⟩
        have pb := CO.all _ (List.getElem_mem hic)
        refine yes_of ⟨_, rfl, _, rfl, _, rfl, td, _, rfl, gkR (rd _ _ a1) (b1 _ hnm), _, rfl, _, rfl, td0, _, rfl, gkR (rd _ _ a0) (b0 _ hnm), _, _, rfl, rfl, _, rfl, _, rfl, _, _, rfl, rfl, .inl ⟨by have := pb.p0; omega, by have := pb.p1; omega⟩, _, _, rfl, rfl, ?_⟩
        refine ⟨_, Sum.inr cars[i].name, rfl, d4, by rw [List.length_map, List.length_take]; have := CO.few; exact small1000 (by omega), fun b o e n => ?_, ?_, ?_⟩
        · rw [upd_ne (fun z => ?_)]
          · exact k4 _ _ e n
          · rw [z] at e
            have q := npd _ _ e (fun y => nD (y ▸ rfl))
            rw [hDd] at q
            cases q
        · rw [upd_ne nD]
          exact z4
        · rw [upd_same]
          have := put_car (g := fun c => V.int (lossOf secs cars c)) ndn hc
          rw [← this]
          rfl
      · rintro H3 ⟨k3, z3, d3⟩
        rw [eln, List.take_length] at d3
        refine ⟨z3, k _ Dd (fun b o e => ?_) ?_ (by rw [upd_ne nD.symm]; exact d3)⟩
        · by_cases eb : b = W.pd
          · have q := D.pac
            rw [← eb, e] at q
            cases q
            rw [eb]
            exact upd_same
          · rw [upd_ne eb]
            exact k3 _ _ e eb
        · cases q : H Dd with
          | none => rfl
          | some o =>
            have := npd _ _ q nD.symm
            rw [hDd] at this
            cases this
end
end Sl

set_option Elab.async false
set_option linter.all false
set_option maxRecDepth 100000
set_option maxHeartbeats 1000000
namespace Sl
open PySem PySem.Spec L2 OwnR LamX
/-! ### the law's row of drawn numbers -/
def KeepB (r : Addr) (H H' : Hp) : Prop := ∀ b o, H b = some o → b ≠ r → H' b = some o
theorem KeepB.refl (r : Addr) (H : Hp) : KeepB r H H := fun _ _ e _ => e
theorem KeepB.trans {r : Addr} {H H1 H2 : Hp} (a : KeepB r H H1) (b : KeepB r H1 H2) : KeepB r H H2 := fun x o e n => b x o (a x o e n) n
theorem KeepB.of {r : Addr} {H H1 : Hp} (a : Same H H1) : KeepB r H H1 := fun x o e _ => a x o e
theorem KeepB.upd {r : Addr} {H : Hp} (o : HO) : KeepB r H (upd H r o) := fun x p e n => by rw [upd_ne n]; exact e
structure RowAt (K : PySem.W.Frag) (H : Hp) (r sc : Addr) (ns : List Int) : Prop where
  at_ : ∃ (a : Nat) (b c : Int), H r = some (.lst [.ref sc, .int (a : Nat), .int b, .int c])
  scr : ∀ H', KeepB r H H' → SqL K H' sc (ns.map V.int)
theorem KeepB.sqL {K : PySem.W.Frag} {r a : Addr} {H H' : Hp} {xs : List V} (k : KeepB r H H') (n : a ≠ r) (h : SqL K H a xs) : SqL K H' a xs := by
  rcases h with (h | ⟨o, h⟩) | h
  · exact .inl (.inl (k _ _ h n))
  · exact .inl (.inr ⟨o, k _ _ h n⟩)
  · exact .inr h
theorem RowAt.put {K : PySem.W.Frag} {H : Hp} {r sc : Addr} {ns : List Int} (R : RowAt K H r sc ns) (a : Nat) (b c : Int) : RowAt K (upd H r (.lst [.ref sc, .int (a : Nat), .int b, .int c])) r sc ns :=
  ⟨⟨a, b, c, upd_same⟩, fun H' k => R.scr H' ((KeepB.upd _).trans k)⟩
theorem RowAt.same {K : PySem.W.Frag} {H H' : Hp} {r sc : Addr} {ns : List Int} (R : RowAt K H r sc ns) (e : Same H H') : RowAt K H' r sc ns :=
  ⟨let ⟨a, b, c, h⟩ := R.at_; ⟨a, b, c, e _ _ h⟩, fun H2 k => R.scr H2 ((KeepB.of e).trans k)⟩
theorem RowAt.now {K : PySem.W.Frag} {H : Hp} {r sc : Addr} {ns : List Int} (R : RowAt K H r sc ns) : SqL K H sc (ns.map V.int) := R.scr H (KeepB.refl _ _)
section
variable {P : Program} {w : World} {K : PySem.W.Frag} {mg : Str → Option Value} {base : Heap}
theorem mod_nat (z : Int) {m : Nat} (h : 1 ≤ m) : ∃ q : Nat, z % (m : Int) = (q : Int) ∧ q < m := by
  have h1 := Int.emod_nonneg z (show (m : Int) ≠ 0 by omega)
  have h2 := Int.emod_lt_of_pos z (show (0 : Int) < m by omega)
  exact ⟨(z % (m : Int)).toNat, by omega, by omega⟩
def spNext (K : PySem.W.Frag) : Sp := fun vs H Q _ => ∃ (r sc : Addr) (ns : List Int) (m : Nat), vs = [.ref r, .int (m : Nat)] ∧ 1 ≤ m ∧ m ≤ 1000 ∧ RowAt K H r sc ns ∧ ∀ H' (q : Nat), KeepB r H H' → RowAt K H' r sc ns → q < m → Q (.int (q : Nat)) H'
def nNext : List Str := ["_law_dice_here", "_law_many", "_law_found", "_law_cell"]
theorem scNext : FnScope nNext ["_law_dice_here", "_law_many"] (defScope sNext) := ⟨rfl, rfl, rfl, by decide +kernel, rfl, by decide +kernel, by decide +kernel⟩
theorem ok_next {f : Addr} {fd : FuncData} (F : Fun K "_law_next" "_law_next" sNext f fd) (M : Mg mg) : FnOk P w K mg base CX0 1 f fd ["_law_dice_here", "_law_many"] (spNext K) := by
  refine F.ok scNext (fun vs H Q E h => ?_) (fun cdv A outer s H vs Q E hr h => ?_)
  · obtain ⟨r, sc, ns, m, rfl, _⟩ := h
    rfl
  · obtain ⟨r, sc, ns, m, rfl, h1, h1000, ⟨⟨a, b, c, hrow⟩, hsc⟩, k⟩ := h
    have nd := scNext.nd
    refine ⟨_, pss_cons (ps_if (pt_cmpR op_gt (pe_ix ix_list (pv 0) pe_int (fun _ _ => rfl)) pe_int (nomark _))
        (pss_cons (ps_set (i := 2) nd rfl (.inl rfl) (pe_op op_mod (pe_callTy call_int1 (by rfl) M.int boot_tInt (pa_cons (pe_ix ix_list (pv 0) pe_int (fun _ _ => rfl)) pa_nil)) (pv 1)))
        (pss_cons (ps_asg (pe_op op_fdiv (pe_ix ix_list (pv 0) pe_int (fun _ _ => rfl)) (pv 1)) (pg_sub (pv 0) pe_int set_list))
        (pss_one (ps_ret (pv 2))))) pss_nil)
      (pss_cons (ps_asg (pe_op op_add (pe_ix ix_list (pv 0) pe_int (fun _ _ => rfl)) pe_int) (pg_sub (pv 0) pe_int set_list))
      (pss_cons (ps_if (pt_cmpR op_le (pe_ix ix_list (pv 0) pe_int (fun _ _ => rfl)) (pe_callB call_len_seq (by rfl) M.len boot_len (pa_cons (pe_ix ix_list (pv 0) pe_int (fun _ _ => rfl)) pa_nil)) (nomark _))
        (pss_cons (ps_set (i := 3) nd rfl (.inl rfl) (pe_ix ix_list (pe_ix ix_list (pv 0) pe_int (fun _ _ => rfl)) (pe_op op_sub (pe_ix ix_list (pv 0) pe_int (fun _ _ => rfl)) pe_int) (fun _ _ => rfl)))
        (pss_cons (ps_asg (pe_ifExp (pt_cmpR op_ge (pv 3) (pe_op op_pow pe_int pe_int) (nomark _)) (pe_op op_fdiv (pv 3) (pv 1)) pe_int) (pg_sub (pv 0) pe_int set_list))
        (pss_one (ps_ret (pe_op op_mod (pe_callTy call_int1 (by rfl) M.int boot_tInt (pa_cons (pv 3) pa_nil)) (pv 1)))))) pss_nil)
      (pss_cons (ps_asg (pe_op op_mod (pe_callTy call_int1 (by rfl) M.int boot_tInt (pa_cons (pe_op op_mul (pe_ix ix_list (pv 0) pe_int (fun _ _ => rfl)) pe_int) pa_nil)) pe_int) (pg_sub (pv 0) pe_int set_list))
      (pss_one (ps_ret (pe_op op_mod (pe_callTy call_int1 (by rfl) M.int boot_tInt (pa_cons (pe_op op_fdiv (pe_ix ix_list (pv 0) pe_int (fun _ _ => rfl)) pe_int) pa_nil)) (pv 1))))))), ?_⟩
    have at0 : ∀ (x y z v : V), atI [x, y, z, v] 0 = some x := fun _ _ _ _ => rfl
    have at1 : ∀ (x y z v : V), atI [x, y, z, v] 1 = some y := fun _ _ _ _ => rfl
    have at2 : ∀ (x y z v : V), atI [x, y, z, v] 2 = some z := fun _ _ _ _ => rfl
    have at3 : ∀ (x y z v : V), atI [x, y, z, v] 3 = some v := fun _ _ _ _ => rfl
    have R0 : RowAt K H r sc ns := ⟨⟨a, b, c, hrow⟩, hsc⟩
    have md : ∀ z : Int, ∃ q : Nat, z % ((m : Nat) : Int) = (q : Int) ∧ q < m := fun z => mod_nat z h1
    refine ⟨_, rfl, r, _, 3, _, rfl, rfl, SqL.of hrow, at3 _ _ _ _, _, _, rfl, rfl, _, rfl, ?_⟩
    by_cases hc : 0 < c
    · rw [decide_eq_true hc]
      refine iteT ?_
      obtain ⟨q, eq, hq⟩ := md c
      refine ⟨_, rfl, r, _, 3, _, rfl, rfl, SqL.of hrow, at3 _ _ _ _, .inl ⟨c, rfl, _, rfl, _, _, rfl, rfl, by omega, ?_⟩⟩
      refine ⟨_, rfl, r, _, 3, _, rfl, rfl, SqL.of hrow, at3 _ _ _ _, _, rfl, _, _, rfl, rfl, ⟨by omega, by omega⟩, ?_⟩
      refine ⟨_, rfl, r, _, 3, 3, rfl, rfl, hrow, rfl, ?_⟩
      have z := k _ q (KeepB.upd _) (R0.put a b (c / ((m : Nat) : Int))) hq
      rw [← eq] at z
      exact ⟨_, rfl, z⟩
    · rw [decide_eq_false hc]
      refine iteF ?_
      refine ⟨_, rfl, r, _, 1, _, rfl, rfl, SqL.of hrow, at1 _ _ _ _, _, _, rfl, rfl, ?_⟩
      refine ⟨_, rfl, r, _, 1, 1, rfl, rfl, hrow, rfl, ?_⟩
      have hrow1 : upd H r (.lst ([V.ref sc, .int ((a : Nat) : Int), .int b, .int c].set 1 (.int (((a : Nat) : Int) + 1)))) r = some (.lst [V.ref sc, .int (((a + 1 : Nat)) : Int), .int b, .int c]) := by
        rw [upd_same]
        rfl
      have R1 : RowAt K (upd H r (.lst ([V.ref sc, .int ((a : Nat) : Int), .int b, .int c].set 1 (.int (((a : Nat) : Int) + 1))))) r sc ns := R0.put (a + 1) b c
      have k1 : KeepB r H (upd H r (.lst ([V.ref sc, .int ((a : Nat) : Int), .int b, .int c].set 1 (.int (((a : Nat) : Int) + 1))))) := KeepB.upd _
      show tSeq _ _ _ _ (upd H r (.lst ([V.ref sc, .int ((a : Nat) : Int), .int b, .int c].set 1 (.int (((a : Nat) : Int) + 1)))))
      generalize upd H r (.lst ([V.ref sc, .int ((a : Nat) : Int), .int b, .int c].set 1 (.int (((a : Nat) : Int) + 1)))) = H1 at hrow1 R1 k1 ⊢
      refine ⟨_, rfl, r, _, 1, _, rfl, rfl, SqL.of hrow1, at1 _ _ _ _, _, rfl, r, _, 0, _, rfl, rfl, SqL.of hrow1, at0 _ _ _ _, sc, _, rfl, .inl R1.now, _, _, rfl, rfl, _, rfl, ?_⟩
      by_cases hl : (((a + 1 : Nat)) : Int) ≤ (((ns.map V.int).length : Nat) : Int)
      · rw [decide_eq_true hl]
        refine iteT ?_
        rw [List.length_map] at hl
        have hal : a < ns.length := by omega
        obtain ⟨cell, hcell⟩ : ∃ z, ns[a]? = some z := ⟨_, List.getElem?_eq_getElem hal⟩
        refine ⟨_, rfl, r, _, 0, _, rfl, rfl, SqL.of hrow1, at0 _ _ _ _, _, rfl, r, _, 1, _, rfl, rfl, SqL.of hrow1, at1 _ _ _ _, _, _, rfl, rfl, sc, _, ((a : Nat) : Int), .int cell, rfl, ?_, R1.now, atI_nat (map_at V.int hcell), ?_⟩
        · show V.int ((((a + 1 : Nat)) : Int) - 1) = V.int ((a : Nat) : Int)
          congr 1
          omega
        refine ⟨_, rfl, _, _, rfl, rfl, ⟨by decide, by decide, by decide⟩, _, _, rfl, rfl, _, rfl, ?_⟩
        obtain ⟨q, eq, hq⟩ := md cell
        by_cases hb : (10 : Int) ^ (18 : Int).toNat ≤ cell
        · rw [decide_eq_true hb]
          refine iteT ?_
          refine ⟨_, rfl, _, rfl, _, _, rfl, rfl, ⟨by omega, by omega⟩, ?_⟩
          refine ⟨_, rfl, r, _, 3, 3, rfl, rfl, hrow1, rfl, ?_⟩
          refine ⟨_, rfl, .inl ⟨_, rfl, _, rfl, _, _, rfl, rfl, by omega, ?_⟩⟩
          have z := k _ q (k1.trans (KeepB.upd _)) (R1.put (a + 1) b (cell / ((m : Nat) : Int))) hq
          rw [← eq] at z
          exact z
        · rw [decide_eq_false hb]
          refine iteF ?_
          refine ⟨_, rfl, r, _, 3, 3, rfl, rfl, hrow1, rfl, ?_⟩
          refine ⟨_, rfl, .inl ⟨_, rfl, _, rfl, _, _, rfl, rfl, by omega, ?_⟩⟩
          have z := k _ q (k1.trans (KeepB.upd _)) (R1.put (a + 1) b 0) hq
          rw [← eq] at z
          exact z
      · rw [decide_eq_false hl]
        refine iteF ?_
        refine ⟨_, rfl, r, _, 2, _, rfl, rfl, SqL.of hrow1, at2 _ _ _ _, _, _, rfl, rfl, .inr ⟨by decide, by decide⟩, .inl ⟨_, rfl, _, _, rfl, rfl, (show (0 : Int) < 2147483647 by decide), ?_⟩⟩
        refine ⟨_, rfl, r, _, 2, 2, rfl, rfl, hrow1, rfl, ?_⟩
        have hrow2 : upd H1 r (.lst ([V.ref sc, .int (((a + 1 : Nat)) : Int), .int b, .int c].set 2 (.int (b * 48271 % 2147483647)))) r = some (.lst [V.ref sc, .int (((a + 1 : Nat)) : Int), .int (b * 48271 % 2147483647), .int c]) := by
          rw [upd_same]
          rfl
        refine ⟨_, rfl, r, _, 2, _, rfl, rfl, SqL.of hrow2, at2 _ _ _ _, _, _, rfl, rfl, ⟨by decide, by decide⟩, .inl ⟨_, rfl, _, rfl, _, _, rfl, rfl, by omega, ?_⟩⟩
        obtain ⟨q, eq, hq⟩ := md (b * 48271 % 2147483647 / 7)
        have z := k _ q (k1.trans (KeepB.upd _)) (R1.put (a + 1) (b * 48271 % 2147483647) c) hq
        rw [← eq] at z
        exact z
/-! ### _law_dice -/
def spDice (K : PySem.W.Frag) : Sp := fun vs H Q _ => ∃ (sc : Addr) (ns : List Int), vs = [.ref sc] ∧ SqL K H sc (ns.map V.int) ∧ ∀ H' r, Same H H' → H r = none → RowAt K H' r sc ns → Q (.ref r) H'
def nDice : List Str := ["_law_script", "_law_mixed", "_law_cell"]
theorem scDice : FnScope nDice ["_law_script"] (defScope sDice) := ⟨rfl, rfl, rfl, by decide +kernel, rfl, by decide +kernel, by decide +kernel⟩
theorem ok_dice {f : Addr} {fd : FuncData} (F : Fun K "_law_dice" "_law_dice" sDice f fd) (M : Mg mg) : FnOk P w K mg base CX0 1 f fd ["_law_script"] (spDice K) := by
  refine F.ok scDice (fun vs H Q E h => ?_) (fun cdv A outer s H vs Q E hr h => ?_)
  · obtain ⟨sc, ns, rfl, _⟩ := h
    rfl
  · obtain ⟨sc, ns, rfl, hsc, k⟩ := h
    have nd := scDice.nd
    refine ⟨_, pss_cons (ps_set (i := 1) nd rfl (.inl rfl) pe_int)
      (pss_cons (ps_for PassesOwn.never rfl (pi_list (pv 0)) (pg_name (i := 2) nd rfl (.inl rfl))
        (pss_one (ps_set (i := 1) nd rfl (.inl rfl) (pe_op op_mod (pe_callTy call_int1 (by rfl) M.int boot_tInt (pa_cons (pe_op op_add (pe_op op_add (pe_op op_mul (pv 1) pe_int) (pe_op op_mul (pe_op op_mod (pe_callTy call_int1 (by rfl) M.int boot_tInt (pa_cons (pv 2) pa_nil)) pe_int) pe_int)) pe_int) pa_nil)) pe_int))))
      (pss_one (ps_ret (pe_lst (pa_cons (pv 0) (pa_cons pe_int (pa_cons (pe_op op_mul (pv 1) (pe_callTy call_int1 (by rfl) M.int boot_tInt (pa_cons (pe_cmpR op_gt (pe_callB call_len_seq (by rfl) M.len boot_len (pa_cons (pv 0) pa_nil)) pe_int (nomark _)) pa_nil))) (pa_cons pe_int pa_nil)))))))), ?_⟩
    refine ⟨_, rfl, sc, rfl, ⟨_, hsc⟩, for_it walk_list (fun i σ H1 => H1 = H ∧ ∃ (z : Int) (v2 : Option V), σ = [some (.ref sc), some (.int z), v2]) ⟨rfl, _, none, rfl⟩ (fun i σ H1 _ ⟨e, _⟩ => e ▸ hsc) ?_ ?_⟩
    · rintro i y σ H1 H2 hi ⟨rfl, z, v2, rfl⟩ ⟨e, hy⟩
      subst e
      obtain ⟨cell, hcell, rfl⟩ : ∃ t, ns[i]? = some t ∧ y = V.int t := by
        rw [List.getElem?_map] at hy
        obtain ⟨t, z1, z2⟩ := Option.map_eq_some_iff.mp hy
        exact ⟨t, z1, z2.symm⟩
      refine ⟨_, rfl, _, _, rfl, rfl, .inr ⟨by decide, by decide⟩, _, rfl, .inl ⟨_, rfl, _, _, rfl, rfl, (show (0 : Int) < 2147483647 by decide), _, _, rfl, rfl, .inr ⟨by decide, by decide⟩, _, _, rfl, rfl, _, _, rfl, rfl, .inl ⟨_, rfl, _, _, rfl, rfl, (show (0 : Int) < 2147483647 by decide), ?_⟩⟩⟩
      exact ⟨rfl, _, _, rfl⟩
    · rintro σ H1 ⟨rfl, z, v2, rfl⟩
      refine ⟨_, rfl, _, rfl, _, rfl, sc, _, rfl, .inl hsc, _, _, rfl, rfl, .inr ⟨_, rfl, _, _, rfl, rfl, .inr ?_, by show 4 ≤ sizeLine; decide, fun r hr0 => ?_⟩⟩
      · split <;> decide
      · refine k _ r (fun b o e => by rw [upd_ne (ne_of_none e hr0)]; exact e) hr0 ⟨⟨0, _, 0, upd_same⟩, fun H' k' => ?_⟩
        rcases hsc with (e | ⟨o, e⟩) | e
        · exact .inl (.inl (k' _ _ (by rw [upd_ne (ne_of_none e hr0)]; exact e) (ne_of_none e hr0)))
        · exact .inl (.inr ⟨o, k' _ _ (by rw [upd_ne (ne_of_none e hr0)]; exact e) (ne_of_none e hr0)⟩)
        · exact .inr e
end
end Sl

set_option Elab.async false
set_option linter.all false
set_option maxRecDepth 100000
set_option maxHeartbeats 1000000
namespace Sl
open PySem PySem.Spec L2 OwnR LamX
/-! ### a list of new tuples -/
def TupsAt (H : Hp) (a : Addr) (vss : List (List V)) : Prop := ∃ ts : List Addr, H a = some (.lst (ts.map V.ref)) ∧ ts.length = vss.length ∧ ∀ (i : Nat) (t : Addr) (v : List V), ts[i]? = some t → vss[i]? = some v → H t = some (.tup v)
theorem tups_push {H : Hp} {a : Addr} {ts : List Addr} {vss : List (List V)} (h1 : H a = some (.lst (ts.map V.ref))) (h2 : ts.length = vss.length) (h3 : ∀ (i : Nat) (t : Addr) (v : List V), ts[i]? = some t → vss[i]? = some v → H t = some (.tup v)) {t : Addr} (ht : H t = none) (v : List V) :
    TupsAt (upd (upd H t (.tup v)) a (.lst (ts.map V.ref ++ [.ref t]))) a (vss ++ [v]) := by
  have nat : a ≠ t := ne_of_none h1 ht
  refine ⟨ts ++ [t], by rw [upd_same, List.map_append]; rfl, by rw [List.length_append, List.length_append, h2]; rfl, fun i b s e1 e2 => ?_⟩
  rcases snoc_get e1 with e1 | ⟨hi2, rfl⟩
  · have hlt := (List.getElem?_eq_some_iff.mp e1).1
    rw [List.getElem?_append_left (by rw [← h2]; exact hlt)] at e2
    have q := h3 i b s e1 e2
    rw [upd_ne (ne_of q h1 (by intro z; cases z)), upd_ne (ne_of_none q ht)]
    exact q
  · rcases snoc_get e2 with e2 | ⟨_, rfl⟩
    · have := (List.getElem?_eq_some_iff.mp e2).1
      omega
    · rw [upd_ne nat.symm, upd_same]
theorem TupsAt.keep {H H' : Hp} {r a : Addr} {vss : List (List V)} {xs : List V} (h : TupsAt H a vss) (k : KeepB r H H') (n : a ≠ r) (hr : H r = some (.lst xs)) : TupsAt H' a vss := by
  obtain ⟨ts, h1, h2, h3⟩ := h
  exact ⟨ts, k _ _ h1 n, h2, fun i t v e1 e2 => k _ _ (h3 i t v e1 e2) (ne_of (h3 i t v e1 e2) hr (by intro z; cases z))⟩
theorem TupsAt.same {H H' : Hp} {a : Addr} {vss : List (List V)} (h : TupsAt H a vss) (k : Same H H') : TupsAt H' a vss := by
  obtain ⟨ts, h1, h2, h3⟩ := h
  exact ⟨ts, k _ _ h1, h2, fun i t v e1 e2 => k _ _ (h3 i t v e1 e2)⟩
theorem tups_nil {H : Hp} {a : Addr} (h : H a = some (.lst [])) : TupsAt H a [] := ⟨[], h, rfl, fun i t v e => by simp at e⟩
theorem TupsAt.runs {H : Hp} {a : Addr} {secs : List Sec} (h : TupsAt H a (secs.map secV)) : RunsAt H a secs := by
  obtain ⟨ts, h1, h2, h3⟩ := h
  exact ⟨ts, h1, by rw [h2, List.length_map], fun i t s e1 e2 => h3 i t (secV s) e1 (by rw [List.getElem?_map, e2]; rfl)⟩
section
variable {P : Program} {w : World} {K : PySem.W.Frag} {mg : Str → Option Value} {base : Heap}
theorem RowAt.lst {H : Hp} {r sc : Addr} {ns : List Int} (R : RowAt K H r sc ns) : ∃ xs, H r = some (.lst xs) := let ⟨_, _, _, h⟩ := R.at_; ⟨_, h⟩
theorem RowAt.old {H : Hp} {r sc : Addr} {ns : List Int} (R : RowAt K H r sc ns) {l : Addr} (hl : H l = none) : l ≠ r := fun z => by
  obtain ⟨xs, h⟩ := R.lst
  rw [z, h] at hl
  cases hl
/-! ### _law_pick -/
def spPick (K : PySem.W.Frag) : Sp := fun vs H Q _ => ∃ (r sc : Addr) (ns : List Int) (s : Addr) (xs : List V), vs = [.ref r, .ref s] ∧ H s = some (.lst xs) ∧ 1 ≤ xs.length ∧ xs.length ≤ 1000 ∧ s ≠ r ∧ RowAt K H r sc ns ∧
  ∀ H' (q : Nat) (v : V), KeepB r H H' → RowAt K H' r sc ns → xs[q]? = some v → Q v H'
def nPick : List Str := ["_law_d", "_law_some"]
theorem scPick : FnScope nPick ["_law_d", "_law_some"] (defScope sPick) := ⟨rfl, rfl, rfl, by decide +kernel, rfl, by decide +kernel, by decide +kernel⟩
theorem ok_pick {f fN : Addr} {fd dN : FuncData} (F : Fun K "_law_pick" "_law_pick" sPick f fd) (M : Mg mg) (BN : Fb K mg "_law_next" sNext ["_law_dice_here", "_law_many"] fN dN)
    (GN : FnOk P w K mg base CX0 1 fN dN ["_law_dice_here", "_law_many"] (spNext K)) : FnOk P w K mg base CX0 2 f fd ["_law_d", "_law_some"] (spPick K) := by
  refine F.ok scPick (fun vs H Q E h => ?_) (fun cdv A outer s H vs Q E hr h => ?_)
  · obtain ⟨r, sc, ns, s, xs, rfl, _⟩ := h
    rfl
  · obtain ⟨r, sc, ns, sa, xs, rfl, hs, h1, h1000, nsr, R0, k⟩ := h
    refine ⟨_, pss_one (ps_ret (pe_ix ix_list (pv 1) (pe_call GN hr (by rfl) BN.at_ BN.fn.kp BN.bd .nil pass0 (pa_cons (pv 0) (pa_cons (pe_callB call_len_seq (by rfl) M.len boot_len (pa_cons (pv 1) pa_nil)) pa_nil))) (fun _ _ => rfl))), ?_⟩
    refine ⟨_, rfl, _, rfl, _, rfl, sa, _, rfl, .inl (SqL.of hs), r, sc, ns, xs.length, rfl, h1, h1000, R0, fun H1 q k1 R1 hq => ?_⟩
    obtain ⟨v, hv⟩ : ∃ v, xs[q]? = some v := ⟨_, List.getElem?_eq_getElem hq⟩
    exact ⟨sa, xs, _, v, rfl, rfl, SqL.of (k1 _ _ hs nsr), atI_nat hv, k H1 q v k1 R1 hv⟩
/-! ### _law_parts -/
def spParts (K : PySem.W.Frag) : Sp := fun vs H Q _ => ∃ (r sc : Addr) (ns : List Int) (m n : Nat), vs = [.ref r, .int (m : Nat), .int (n : Nat)] ∧ 1 ≤ m ∧ m ≤ 12 ∧ 1 ≤ n ∧ n ≤ 99 ∧ RowAt K H r sc ns ∧
  ∀ H' L secs, KeepB r H H' → RowAt K H' r sc ns → H L = none → L ≠ r → RunsAt H' L secs → 1 ≤ secs.length → secs.length ≤ m → (∀ s ∈ secs, 1 ≤ s.2 ∧ s.2 ≤ n) → Q (.ref L) H'
def nParts : List Str := ["_law_d", "_law_most", "_law_long", "_law_found", "_law_k"]
theorem scParts : FnScope nParts ["_law_d", "_law_most", "_law_long"] (defScope sParts) := ⟨rfl, rfl, rfl, by decide +kernel, rfl, by decide +kernel, by decide +kernel⟩
theorem ok_parts {f fN fP : Addr} {fd dN dP : FuncData} (F : Fun K "_law_parts" "_law_parts" sParts f fd) (M : Mg mg) (BN : Fb K mg "_law_next" sNext ["_law_dice_here", "_law_many"] fN dN)
    (GN : FnOk P w K mg base CX0 1 fN dN ["_law_dice_here", "_law_many"] (spNext K)) (BP : Fb K mg "_law_pick" sPick ["_law_d", "_law_some"] fP dP) (GP : FnOk P w K mg base CX0 2 fP dP ["_law_d", "_law_some"] (spPick K)) :
    FnOk P w K mg base CX0 3 f fd ["_law_d", "_law_most", "_law_long"] (spParts K) := by
  refine F.ok scParts (fun vs H Q E h => ?_) (fun cdv A outer s H vs Q E hr h => ?_)
  · obtain ⟨r, sc, ns, m, n, rfl, _⟩ := h
    rfl
  · obtain ⟨r, sc, ns, m, n, rfl, m1, m12, n1, n99, R0, k⟩ := h
    have nd := scParts.nd
    have hr1 : Room 1 (A.deeper (PyProof.Rows.envOfC "_law_parts" (defScope sParts) s.heap.objs.size f cdv)) := hr.mono (by decide)
    refine ⟨_, pss_cons (ps_set (i := 3) nd rfl (.inl rfl) (pe_lst pa_nil))
      (pss_cons (ps_for PassesOwn.never rfl (pi_range1 (by rfl) M.range (pa_cons (pe_op op_add pe_int (pe_call GN hr1 (by rfl) BN.at_ BN.fn.kp BN.bd .nil pass0 (pa_cons (pv 0) (pa_cons (pv 1) pa_nil)))) pa_nil)) (pg_name (i := 4) nd rfl (.inl rfl))
        (pss_one (ps_expr (pe_bm PySem.F.plainAttrs_list PySem.F.slot_list_append PySem.F.type_list_append mt_append (pv 3) (pa_cons (pe_tup (pa_cons (pe_call GP hr (by rfl) BP.at_ BP.fn.kp BP.bd .nil pass0 (pa_cons (pv 0) (pa_cons (pe_lst (pa_cons pe_str (pa_cons pe_str (pa_cons pe_str pa_nil)))) pa_nil)))
          (pa_cons (pe_op op_add pe_int (pe_call GN hr1 (by rfl) BN.at_ BN.fn.kp BN.bd .nil pass0 (pa_cons (pv 0) (pa_cons (pv 2) pa_nil)))) pa_nil))) pa_nil)))))
      (pss_one (ps_ret (pv 3)))), ?_⟩
    refine ⟨Nat.zero_le _, fun L hL => ?_⟩
    have nLr := R0.old hL
    have S0 : Same H (upd H L (.lst [])) := fun b o e => by rw [upd_ne (ne_of_none e hL)]; exact e
    refine ⟨_, rfl, _, rfl, r, sc, ns, m, rfl, m1, by omega, R0.same S0, fun H1 q k1 R1 hq => ?_⟩
    have hL1 : H1 L = some (.lst []) := k1 _ _ upd_same nLr
    refine ⟨_, _, rfl, rfl, (1 + ((q : Nat) : Int)), rfl, by omega, by omega, ?_⟩
    have en : (1 + ((q : Nat) : Int)).toNat = q + 1 := by omega
    rw [en]
    refine for_it walk_range (fun i σ H2 => ∃ (secs : List Sec) (v4 : Option V), σ = [some (.ref r), some (.int ((m : Nat) : Int)), some (.int ((n : Nat) : Int)), some (.ref L), v4] ∧ KeepB r H H2 ∧ RowAt K H2 r sc ns ∧ TupsAt H2 L (secs.map secV) ∧ secs.length = i ∧ ∀ s ∈ secs, 1 ≤ s.2 ∧ s.2 ≤ n)
      ⟨[], none, rfl, (KeepB.of S0).trans k1, R1, tups_nil hL1, rfl, fun s hs => nomatch hs⟩ (fun _ _ _ _ _ => True.intro) ?_ ?_
    · rintro i x σ H2 H3 hi ⟨secs, v4, rfl, k2, R2, T2, hlen, hd⟩ ⟨e, ex⟩
      have ex2 : x = V.int ((i : Nat) : Int) := by
        rw [ex]
        show V.int (0 + ((i : Nat) : Int)) = _
        rw [Int.zero_add]
      clear ex
      subst e ex2
      obtain ⟨ts, t1, t2, t3⟩ := id T2
      refine ⟨_, rfl, .inl ⟨rfl, _, SqL.of t1⟩, _, rfl, by show 3 ≤ sizeLine; decide, fun l hl => ?_⟩
      have s4 : Same H3 (upd H3 l (.lst [.str "narrow", .str "narrow", .str "wide"])) := fun b o e => by rw [upd_ne (ne_of_none e hl)]; exact e
      refine ⟨r, sc, ns, l, _, rfl, upd_same, by show 1 ≤ 3; decide, by show 3 ≤ 1000; decide, R2.old hl, R2.same s4, fun H5 q5 v5 k5 R5 hv5 => ?_⟩
      obtain ⟨b, rfl⟩ : ∃ b, v5 = V.str (kindS b) := by
        match q5, hv5 with
        | 0, h => exact ⟨false, (Option.some.inj h).symm⟩
        | 1, h => exact ⟨false, (Option.some.inj h).symm⟩
        | 2, h => exact ⟨true, (Option.some.inj h).symm⟩
      obtain ⟨x4, hx4⟩ := (R2.same s4).lst
      have T5 := (T2.same s4).keep k5 nLr hx4
      refine ⟨_, rfl, _, rfl, r, sc, ns, n, rfl, n1, by omega, R5, fun H6 q6 k6 R6 hq6 => ?_⟩
      obtain ⟨x5, hx5⟩ := R5.lst
      obtain ⟨ts6, z1, z2, z3⟩ := T5.keep k6 nLr hx5
      refine ⟨_, _, rfl, rfl, by show 2 ≤ sizeLine; decide, fun t ht => ?_⟩
      have nLt : L ≠ t := ne_of_none z1 ht
      refine ⟨L, _, .ref t, rfl, rfl, by rw [upd_ne nLt]; exact z1, by rw [List.length_map, z2, List.length_map, hlen]; exact small1000 (by omega), ?_⟩
      have k26 : KeepB r H H6 := k2.trans ((KeepB.of s4).trans (k5.trans k6))
      have hup : Same H6 (upd H6 t (.tup [.str (kindS b), .int (1 + ((q6 : Nat) : Int))])) := fun b o e => by rw [upd_ne (ne_of_none e ht)]; exact e
      have kfin : KeepB r H (upd (upd H6 t (.tup [.str (kindS b), .int (1 + ((q6 : Nat) : Int))])) L (.lst (ts6.map V.ref ++ [.ref t]))) := fun b o e n => by
        rw [upd_ne (ne_of_none e hL)]
        exact hup _ _ (k26 _ _ e n)
      refine ⟨secs ++ [(b, q6 + 1)], _, rfl, kfin, ⟨?_, fun H' k' => R0.scr H' (kfin.trans k')⟩, ?_, by rw [List.length_append, hlen]; rfl, fun s hs => ?_⟩
      · obtain ⟨a, b, c, h⟩ := R6.at_
        exact ⟨a, b, c, by rw [upd_ne nLr.symm]; exact hup _ _ h⟩
      · have := tups_push z1 z2 z3 ht [.str (kindS b), .int (1 + ((q6 : Nat) : Int))]
        rw [List.map_append]
        have e1 : (1 + ((q6 : Nat) : Int)) = (((q6 + 1 : Nat)) : Int) := by omega
        have e2 : secV (b, q6 + 1) = [V.str (kindS b), V.int (1 + ((q6 : Nat) : Int))] := by
          unfold secV
          rw [e1]
        show TupsAt _ L (_ ++ [secV (b, q6 + 1)])
        rw [e2]
        exact this
      · rcases List.mem_append.mp hs with hs | hs
        · exact hd s hs
        · rw [List.mem_singleton.mp hs]
          exact ⟨by show 1 ≤ q6 + 1; omega, by show q6 + 1 ≤ n; omega⟩
    · rintro σ H2 ⟨secs, v4, rfl, k2, R2, T2, hlen, hd⟩
      exact ⟨_, rfl, k H2 L secs k2 R2 hL nLr T2.runs (by omega) (by omega) hd⟩
end
end Sl

set_option Elab.async false
set_option linter.all false
set_option maxRecDepth 100000
set_option maxHeartbeats 1000000
namespace Sl
open PySem PySem.Spec L2 OwnR LamX
/-! ### random cars -/
def wordsL : List Str := ["ann", "bob", "cy", "dan", "eve", "flo", "gus", "hal", "ida", "jo"]
theorem words_nd : wordsL.Nodup := by decide +kernel
def nameB (z : Str) : Bool := decide (1 ≤ z.length) && decide (z.length ≤ 8) && z.cps.toList.all fun c => decide (97 ≤ c) && decide (c ≤ 122)
theorem name_of {z : Str} (h : nameB z = true) : NameOk z := by
  unfold nameB at h
  simp only [Bool.and_eq_true, decide_eq_true_eq, List.all_eq_true] at h
  exact ⟨h.1.1, h.1.2, h.2⟩
theorem words_ok : ∀ z ∈ wordsL, NameOk z := fun z hz => name_of (List.all_eq_true.mp (by decide +kernel : wordsL.all nameB = true) z hz)
structure DrawnW (j : Nat) (sp pc : Nat) (c : Car) : Prop where
  nm : wordsL[j]? = some c.name
  s0 : 0 ≤ c.start
  s1 : c.start ≤ sp
  p0 : 1 ≤ c.pace
  p1 : c.pace ≤ pc
theorem drawnW_ok {cars : List Car} {sp pc : Nat} (hl : cars.length ≤ 10) (hs : sp ≤ 1000000) (hp : pc ≤ 60) (h : ∀ j c, cars[j]? = some c → DrawnW j sp pc c) : CarsOk cars := by
  refine ⟨fun c hc => ?_, ?_, hl⟩
  · obtain ⟨j, hj⟩ := List.mem_iff_getElem?.mp hc
    have d := h j c hj
    exact ⟨words_ok _ (List.mem_of_getElem? d.nm), d.s0, by have := d.s1; omega, d.p0, by have := d.p1; omega⟩
  · have e : cars.map (·.name) = wordsL.take cars.length := by
      apply List.ext_getElem?
      intro i
      rw [List.getElem?_map]
      by_cases hi : i < cars.length
      · have e := List.getElem?_eq_getElem hi
        rw [List.getElem?_take_of_lt hi, e]
        exact (h i _ e).nm.symm
      · rw [List.getElem?_eq_none (by omega), List.getElem?_eq_none (by rw [List.length_take]; omega)]
        rfl
    rw [e]
    exact words_nd.sublist (List.take_sublist _ _)
section
variable {P : Program} {w : World} {K : PySem.W.Frag} {mg : Str → Option Value} {base : Heap}
def spCars (K : PySem.W.Frag) : Sp := fun vs H Q _ => ∃ (r sc : Addr) (ns : List Int) (m sp pc : Nat), vs = [.ref r, .int (m : Nat), .int (sp : Nat), .int (pc : Nat)] ∧ m ≤ 10 ∧ sp ≤ 900 ∧ 1 ≤ pc ∧ pc ≤ 60 ∧ RowAt K H r sc ns ∧
  ∀ H' L cars, KeepB r H H' → RowAt K H' r sc ns → H L = none → L ≠ r → TupsAt H' L (cars.map Car.vs) → CarsOk cars → cars.length ≤ m → (∀ c ∈ cars, c.name ∈ wordsL) → Q (.ref L) H'
def nCars : List Str := ["_law_d", "_law_most", "_law_span", "_law_paces", "_law_words", "_law_found", "_law_k"]
theorem scCars : FnScope nCars ["_law_d", "_law_most", "_law_span", "_law_paces"] (defScope sCars) := ⟨rfl, rfl, rfl, by decide +kernel, rfl, by decide +kernel, by decide +kernel⟩
theorem ok_cars {f fN : Addr} {fd dN : FuncData} (F : Fun K "_law_cars" "_law_cars" sCars f fd) (M : Mg mg) (BN : Fb K mg "_law_next" sNext ["_law_dice_here", "_law_many"] fN dN)
    (GN : FnOk P w K mg base CX0 1 fN dN ["_law_dice_here", "_law_many"] (spNext K)) : FnOk P w K mg base CX0 2 f fd ["_law_d", "_law_most", "_law_span", "_law_paces"] (spCars K) := by
  refine F.ok scCars (fun vs H Q E h => ?_) (fun cdv A outer s H vs Q E hr h => ?_)
  · obtain ⟨r, sc, ns, m, sp, pc, rfl, _⟩ := h
    rfl
  · obtain ⟨r, sc, ns, m, sp, pc, rfl, m10, sp900, pc1, pc60, R0, k⟩ := h
    have nd := scCars.nd
    refine ⟨_, pss_cons (ps_set (i := 4) nd rfl (.inl rfl) (pe_lst (pa_cons pe_str (pa_cons pe_str (pa_cons pe_str (pa_cons pe_str (pa_cons pe_str (pa_cons pe_str (pa_cons pe_str (pa_cons pe_str (pa_cons pe_str (pa_cons pe_str pa_nil))))))))))))
      (pss_cons (ps_set (i := 5) nd rfl (.inl rfl) (pe_lst pa_nil))
      (pss_cons (ps_for PassesOwn.never rfl (pi_range1 (by rfl) M.range (pa_cons (pe_call GN hr (by rfl) BN.at_ BN.fn.kp BN.bd .nil pass0 (pa_cons (pv 0) (pa_cons (pe_op op_add (pv 1) pe_int) pa_nil))) pa_nil)) (pg_name (i := 6) nd rfl (.inl rfl))
        (pss_one (ps_expr (pe_bm PySem.F.plainAttrs_list PySem.F.slot_list_append PySem.F.type_list_append mt_append (pv 5) (pa_cons (pe_tup (pa_cons (pe_ix ix_list (pv 4) (pv 6) (fun _ _ => rfl))
          (pa_cons (pe_call GN hr (by rfl) BN.at_ BN.fn.kp BN.bd .nil pass0 (pa_cons (pv 0) (pa_cons (pe_op op_add pe_int (pv 2)) pa_nil)))
          (pa_cons (pe_op op_add pe_int (pe_call GN hr (by rfl) BN.at_ BN.fn.kp BN.bd .nil pass0 (pa_cons (pv 0) (pa_cons (pv 3) pa_nil)))) pa_nil)))) pa_nil)))))
      (pss_one (ps_ret (pv 5))))), ?_⟩
    refine ⟨by show 10 ≤ sizeLine; decide, fun W hW => ?_⟩
    have nWr := R0.old hW
    have SW : Same H (upd H W (.lst (wordsL.map V.str))) := fun b o e => by rw [upd_ne (ne_of_none e hW)]; exact e
    have hWw : upd H W (.lst (wordsL.map V.str)) W = some (.lst (wordsL.map V.str)) := upd_same
    show tSeq _ _ _ _ (upd H W (.lst (wordsL.map V.str)))
    generalize upd H W (.lst (wordsL.map V.str)) = Hw at SW hWw ⊢
    have Rw := R0.same SW
    refine ⟨Nat.zero_le _, fun L hL => ?_⟩
    have nLr := Rw.old hL
    have nWL : W ≠ L := ne_of_none hWw hL
    have hLH : H L = none := by
      cases e : H L with
      | none => rfl
      | some o =>
        rw [SW _ _ e] at hL
        cases hL
    have S0 : Same Hw (upd Hw L (.lst [])) := fun b o e => by rw [upd_ne (ne_of_none e hL)]; exact e
    refine ⟨_, rfl, _, rfl, _, _, rfl, rfl, r, sc, ns, m + 1, rfl, by omega, by omega, Rw.same S0, fun H1 q k1 R1 hq => ?_⟩
    have hL1 : H1 L = some (.lst []) := k1 _ _ upd_same nLr
    have hW1 : H1 W = some (.lst (wordsL.map V.str)) := k1 _ _ (S0 _ _ hWw) nWr
    refine ⟨_, rfl, by omega, by omega, ?_⟩
    rw [Int.toNat_natCast]
    refine for_it walk_range (fun i σ H2 => ∃ (cars : List Car) (v6 : Option V), σ = [some (.ref r), some (.int ((m : Nat) : Int)), some (.int ((sp : Nat) : Int)), some (.int ((pc : Nat) : Int)), some (.ref W), some (.ref L), v6] ∧ KeepB r H H2 ∧ RowAt K H2 r sc ns ∧ H2 W = some (.lst (wordsL.map V.str)) ∧ TupsAt H2 L (cars.map Car.vs) ∧ cars.length = i ∧ ∀ j c, cars[j]? = some c → DrawnW j sp pc c)
      ⟨[], none, rfl, (KeepB.of (SW.trans S0)).trans k1, R1, hW1, tups_nil hL1, rfl, fun j c e => by simp at e⟩ (fun _ _ _ _ _ => True.intro) ?_ ?_
    · rintro i x σ H2 H3 hi ⟨cars, v6, rfl, k2, R2, hW2, T2, hlen, hd⟩ ⟨e, ex⟩
      have ex2 : x = V.int ((i : Nat) : Int) := by
        rw [ex]
        show V.int (0 + ((i : Nat) : Int)) = _
        rw [Int.zero_add]
      clear ex
      subst e ex2
      have hi10 : i < 10 := by omega
      obtain ⟨wd, hwd⟩ : ∃ z, wordsL[i]? = some z := ⟨_, List.getElem?_eq_getElem (by show i < 10; exact hi10)⟩
      obtain ⟨ts, t1, t2, t3⟩ := id T2
      refine ⟨_, rfl, .inl ⟨rfl, _, SqL.of t1⟩, _, rfl, _, rfl, W, _, _, .str wd, rfl, rfl, SqL.of hW2, atI_nat (map_at V.str hwd), ?_⟩
      refine ⟨_, rfl, _, rfl, _, _, rfl, rfl, r, sc, ns, sp + 1, ?_, by omega, by omega, R2, fun H6 q1 k6 R6 hq1 => ?_⟩
      · show [V.ref r, V.int (1 + ((sp : Nat) : Int))] = [V.ref r, V.int (((sp + 1 : Nat)) : Int)]
        rw [show (1 + ((sp : Nat) : Int)) = (((sp + 1 : Nat)) : Int) by omega]
      obtain ⟨x5, hx5⟩ := R2.lst
      have T6 := T2.keep k6 nLr hx5
      have hW6 := k6 _ _ hW2 nWr
      refine ⟨_, rfl, _, rfl, r, sc, ns, pc, rfl, pc1, by omega, R6, fun H9 q3 k9 R9 hq3 => ?_⟩
      obtain ⟨x8, hx8⟩ := R6.lst
      have hW9 := k9 _ _ hW6 nWr
      obtain ⟨ts9, z1, z2, z3⟩ := T6.keep k9 nLr hx8
      refine ⟨_, _, rfl, rfl, by show 3 ≤ sizeLine; decide, fun t ht => ?_⟩
      have nLt : L ≠ t := ne_of_none z1 ht
      refine ⟨L, _, .ref t, rfl, rfl, by rw [upd_ne nLt]; exact z1, by rw [List.length_map, z2, List.length_map, hlen]; exact small1000 (by omega), ?_⟩
      have k29 : KeepB r H H9 := k2.trans (k6.trans k9)
      have hup : Same H9 (upd H9 t (.tup [.str wd, .int ((q1 : Nat) : Int), .int (1 + ((q3 : Nat) : Int))])) := fun b o e => by rw [upd_ne (ne_of_none e ht)]; exact e
      have kfin : KeepB r H (upd (upd H9 t (.tup [.str wd, .int ((q1 : Nat) : Int), .int (1 + ((q3 : Nat) : Int))])) L (.lst (ts9.map V.ref ++ [.ref t]))) := fun b o e n => by
        rw [upd_ne (ne_of_none e hLH)]
        exact hup _ _ (k29 _ _ e n)
      refine ⟨cars ++ [⟨wd, ((q1 : Nat) : Int), 1 + ((q3 : Nat) : Int)⟩], _, rfl, kfin, ⟨?_, fun H' k' => R0.scr H' (kfin.trans k')⟩, ?_, ?_, by rw [List.length_append, hlen]; rfl, fun j c e => ?_⟩
      · obtain ⟨a, b, c, h⟩ := R9.at_
        exact ⟨a, b, c, by rw [upd_ne nLr.symm]; exact hup _ _ h⟩
      · rw [upd_ne nWL]
        exact hup _ _ hW9
      · have := tups_push z1 z2 z3 ht [.str wd, .int ((q1 : Nat) : Int), .int (1 + ((q3 : Nat) : Int))]
        rw [List.map_append]
        exact this
      · rcases snoc_get e with e | ⟨hj, rfl⟩
        · exact hd j c e
        · rw [hlen] at hj
          subst hj
          exact ⟨hwd, by show (0 : Int) ≤ ((q1 : Nat) : Int); omega, by show ((q1 : Nat) : Int) ≤ ((sp : Nat) : Int); omega, by show (1 : Int) ≤ 1 + ((q3 : Nat) : Int); omega, by show 1 + ((q3 : Nat) : Int) ≤ ((pc : Nat) : Int); omega⟩
    · rintro σ H2 ⟨cars, v6, rfl, k2, R2, hW2, T2, hlen, hd⟩
      exact ⟨_, rfl, k H2 L cars k2 R2 hLH nLr T2 (drawnW_ok (by omega) (by omega) pc60 hd) (by omega) (fun c hc => by
        obtain ⟨j, hj⟩ := List.mem_iff_getElem?.mp hc
        exact List.mem_of_getElem? (hd j c hj).nm)⟩
end
end Sl

set_option Elab.async false
set_option linter.all false
set_option maxRecDepth 100000
set_option maxHeartbeats 1000000
namespace Sl
open PySem PySem.Spec L2 OwnR LamX
/-- what isinstance(x, Road) asks of an instance -/
structure IsRoad (K : PySem.W.Frag) (C : Addr) : Prop where
  ha : PySem.W.findIn K (.ref C) "__class__" = some (some (.builtin "object.__class__"))
  hn : PySem.W.specialIn K (.builtin "object.__class__") "__get__" = some (some (.builtin "getset_descriptor.__get__"))
  htk : PySem.W.takesIn K (.builtin "object.__class__") = some true
  hm : PySem.W.mroIn K C (.type "object") = some true
  kit : PySem.W.kitOne K (.ref C) (.ref C) = some true
theorem unitsL_app (a b : List Sec) : unitsL (a ++ b) = unitsL a ++ unitsL b := by unfold unitsL; rw [List.flatMap_append]
section
variable {P : Program} {w : World} {K : PySem.W.Frag} {mg : Str → Option Value} {base : Heap}
/-! ### road + road -/
def spRAdd (C : Addr) : Sp := fun vs H Q _ => ∃ (a b : Addr) (s1 s2 : List Sec), vs = [.ref a, .ref b] ∧ RoadAt C H a s1 ∧ RoadAt C H b s2 ∧ s1 ≠ [] ∧ s2 ≠ [] ∧ SecsOk (s1 ++ s2) ∧ ∀ H' p, Same H H' → H p = none → RoadAt C H' p (s1 ++ s2) → Q (.ref p) H'
def nRAdd : List Str := ["self", "other", "sections"]
theorem scRAdd : FnScope nRAdd ["self", "other"] (defScope sRAdd) := ⟨rfl, rfl, rfl, by decide +kernel, rfl, by decide +kernel, by decide +kernel⟩
theorem ok_rAdd {f fI C lp kp : Addr} {fd : FuncData} (F : Fun K "__add__" "Road.__add__" sRAdd f fd) (M : Mg mg) (R : RoadT K w mg C lp kp) (IR : IsRoad K C) (MK : Mk K C fI)
    (GI : FnR P w K mg base CX0 3 fI (spRInit C)) : FnOk P w K mg base CX0 5 f fd ["self", "other"] (spRAdd C) := by
  refine F.ok scRAdd (fun vs H Q E h => ?_) (fun cdv A outer s H vs Q E hr h => ?_)
  · obtain ⟨a, b, s1, s2, rfl, _⟩ := h
    rfl
  · obtain ⟨a, b, s1, s2, rfl, ⟨ax, at_, au, a1, ⟨ta, a2, a3, a4⟩, a5⟩, ⟨bx, bt, bu, b1, ⟨tb, b2, b3, b4⟩, b5⟩, n1, n2, S, k⟩ := h
    have nd := scRAdd.nd
    refine ⟨_, pss_cons (ps_if (pt_not (pt_val (pe_callB call_isi (by rfl) M.isinstance boot_isinstance (pa_cons (pv 1) (pa_cons (pe_glob (v := .ref C) (by rfl) R.mgC rfl) pa_nil))))) (pss_one ps_never) pss_nil)
      (pss_cons (ps_set (i := 2) nd rfl (.inl rfl) (pe_op op_catT (pe_fld (pv 0) rfl) (pe_fld (pv 1) rfl)))
      (pss_one (ps_ret (pe_makeGS MK GI hr pass0 (by rfl) R.mgC (pv 2))))), ?_⟩
    refine ⟨_, rfl, _, _, _, _, true, rfl, .own _, .base (.ins b1 R.cl IR.ha IR.hn IR.htk IR.hm), IR.kit, true, rfl, iteF ?_⟩
    have la : (ta.map V.ref).length = s1.length := by rw [List.length_map, a3]
    have lb : (tb.map V.ref).length = s2.length := by rw [List.length_map, b3]
    have few := S.few
    rw [List.length_append] at few
    refine ⟨_, rfl, a, C, ax, _, _, rfl, a1, R.cl, R.nS, rf_sections _ _, _, rfl, b, C, bx, _, _, rfl, b1, R.cl, R.nS, rf_sections _ _, at_, bt, _, _, rfl, rfl, SqT.of a2, SqT.of b2, fun z => ?_, by rw [la, lb]; exact Nat.le_of_lt (small1000 (by omega)), fun z => ?_, fun _ q hq => ?_⟩
    · have := congrArg List.length z
      rw [la] at this
      exact n1 (List.length_eq_zero_iff.mp this)
    · have := congrArg List.length z
      rw [lb] at this
      exact absurd (List.length_eq_zero_iff.mp this) n2
    have eAB : ta.map V.ref ++ tb.map V.ref = (ta ++ tb).map V.ref := by rw [List.map_append]
    have Sq : Same H (upd H q (.tup (ta.map V.ref ++ tb.map V.ref))) := fun b o e => by rw [upd_ne (ne_of_none e hq)]; exact e
    have hq1 : upd H q (.tup (ta.map V.ref ++ tb.map V.ref)) q = some (.tup (ta.map V.ref ++ tb.map V.ref)) := upd_same
    have hel : ∀ (i : Nat) (t : Addr) (s : Sec), (ta ++ tb)[i]? = some t → (s1 ++ s2)[i]? = some s → H t = some (.tup (secV s)) := fun i t s e1 e2 => by
      rcases Nat.lt_or_ge i ta.length with lt | ge
      · rw [List.getElem?_append_left lt] at e1
        rw [List.getElem?_append_left (by rw [← a3]; exact lt)] at e2
        exact a4 i t s e1 e2
      · rw [List.getElem?_append_right ge] at e1
        rw [List.getElem?_append_right (by rw [← a3]; exact ge), ← a3] at e2
        exact b4 _ t s e1 e2
    generalize upd H q (.tup (ta.map V.ref ++ tb.map V.ref)) = H1 at Sq hq1 ⊢
    refine ⟨rfl, _, rfl, q, ta.map V.ref ++ tb.map V.ref, rfl, .inl (SqT.of hq1), fun x dx hx hdx ne => ?_⟩
    refine ⟨[.ref x], ta.map V.ref ++ tb.map V.ref, rfl, rfl, by rw [List.length_append, la, lb]; exact Nat.le_of_lt (small1000 (by omega)), fun t ht => ?_⟩
    have hxt : x ≠ t := fun z => by
      rw [← z, upd_same] at ht
      cases ht
    have old : ∀ b o, H1 b = some o → (upd (upd (upd H1 dx (.own x)) x (.ins C dx [])) t (.tup (ta.map V.ref ++ tb.map V.ref))) b = some o := fun b o e => by
      have e2 : (upd (upd H1 dx (.own x)) x (.ins C dx [])) b = some o := by
        rw [upd_ne (ne_of_none e hx), upd_ne (ne_of_none e hdx)]
        exact e
      rw [upd_ne (ne_of_none e2 ht)]
      exact e2
    refine ⟨x, dx, t, s1 ++ s2, rfl, by rw [upd_ne hxt, upd_same], ⟨ta ++ tb, by rw [upd_same, eAB], by rw [List.length_append, List.length_append, a3, b3], fun i a s e1 e2 => old _ _ (Sq _ _ (hel i a s e1 e2))⟩, S, fun H2 us kp hX hus => ⟨rfl, ?_⟩⟩
    refine k H2 x (fun b o e => kp b o (old _ _ (Sq _ _ e)) (ne_of_none (Sq _ _ e) hx)) ?_ ⟨dx, t, us, hX, ⟨ta ++ tb, ?_, by rw [List.length_append, List.length_append, a3, b3], fun i a s e1 e2 => ?_⟩, hus⟩
    · cases q' : H x with
      | none => rfl
      | some o =>
        rw [Sq _ _ q'] at hx
        cases hx
    · rw [← eAB]
      exact kp _ _ upd_same hxt.symm
    · have q := Sq _ _ (hel i a s e1 e2)
      exact kp _ _ (old _ _ q) (ne_of_none q hx)
end
end Sl

set_option Elab.async false
set_option linter.all false
set_option maxRecDepth 100000
set_option maxHeartbeats 1000000
namespace Sl
open PySem PySem.Spec L2 OwnR LamX
/-! ### _law_made: a road put together from its sections, one by one -/
theorem make_one {C x dx t : Addr} {H : Hp} {s : Sec} {E : XK} {G : Hp → Prop} (ht : H t = some (.tup (secV s))) (s1 : 1 ≤ s.2) (s2 : s.2 ≤ 99) (hx : H x = none) (hdx : H dx = none) (ne : dx ≠ x)
    (k : ∀ H', Same H H' → RoadAt C H' x [s] → G H') : spRInit C [.ref x, .ref t] (upd (upd H dx (.own x)) x (.ins C dx [])) (fun v H2 => v = .non ∧ G H2) E := by
  refine ⟨[.ref x], [.ref t], rfl, rfl, by show 1 ≤ sizeLine; decide, fun p hp => ?_⟩
  have hxp : x ≠ p := fun z => by
    rw [← z, upd_same] at hp
    cases hp
  have old : ∀ b o, H b = some o → (upd (upd (upd H dx (.own x)) x (.ins C dx [])) p (.tup [.ref t])) b = some o := fun b o e => by
    have e2 : (upd (upd H dx (.own x)) x (.ins C dx [])) b = some o := by
      rw [upd_ne (ne_of_none e hx), upd_ne (ne_of_none e hdx)]
      exact e
    rw [upd_ne (ne_of_none e2 hp)]
    exact e2
  have el : ∀ {H9 : Hp} (i : Nat) (a : Addr) (s' : Sec), H9 t = some (.tup (secV s)) → [t][i]? = some a → [s][i]? = some s' → H9 a = some (.tup (secV s')) := fun i a s' h e1 e2 => by
    match i, e1, e2 with
    | 0, e1, e2 =>
      cases Option.some.inj e1
      cases Option.some.inj e2
      exact h
  refine ⟨x, dx, p, [s], rfl, by rw [upd_ne hxp, upd_same], ⟨[t], by rw [upd_same]; rfl, rfl, fun i a s' e1 e2 => el i a s' (old _ _ ht) e1 e2⟩, ⟨by simp, by simp, fun q hq => by rw [List.mem_singleton.mp hq]; exact ⟨s1, s2⟩⟩, fun H2 us kp hX hus => ⟨rfl, ?_⟩⟩
  refine k H2 (fun b o e => kp b o (old _ _ e) (ne_of_none e hx)) ⟨dx, p, us, hX, ⟨[t], kp _ _ upd_same hxp.symm, rfl, fun i a s' e1 e2 => el i a s' (kp _ _ (old _ _ ht) (ne_of_none ht hx)) e1 e2⟩, hus⟩
section
variable {P : Program} {w : World} {K : PySem.W.Frag} {mg : Str → Option Value} {base : Heap}
def spMade (C : Addr) : Sp := fun vs H Q _ => ∃ (l : Addr) (secs : List Sec), vs = [.ref l] ∧ RunsAt H l secs ∧ SecsOk secs ∧ ∀ H' p, Same H H' → H p = none → RoadAt C H' p secs → Q (.ref p) H'
def nMade : List Str := ["_law_parts_here", "_law_road", "_law_part"]
theorem scMade : FnScope nMade ["_law_parts_here"] (defScope sMade) := ⟨rfl, rfl, rfl, by decide +kernel, rfl, by decide +kernel, by decide +kernel⟩
theorem ok_made {f fI fA C lp kp : Addr} {fd dA : FuncData} {ds : List Value} {dvs : List V} (F : Fun K "_law_made" "_law_made" sMade f fd) (M : Mg mg) (R : RoadT K w mg C lp kp) (MK : Mk K C fI)
    (GI : FnR P w K mg base CX0 3 fI (spRInit C)) (hc : PySem.W.selfFirst K C = true) (hs : PySem.W.findIn K (.ref C) (PySem.dunder (Operator.info .Add).2) = some (some (.ref fA))) (hf : PySem.W.isFn K (.ref fA) = true)
    (GA : FnR P w K mg base CX0 5 fA (spRAdd C)) : FnOk P w K mg base CX0 6 f fd ["_law_parts_here"] (spMade C) := by
  refine F.ok scMade (fun vs H Q E h => ?_) (fun cdv A outer s H vs Q E hr h => ?_)
  · obtain ⟨l, secs, rfl, _⟩ := h
    rfl
  · obtain ⟨l, secs, rfl, ⟨ts, a1, a2, a3⟩, S, k⟩ := h
    have nd := scMade.nd
    have hr4 : Room 4 (A.deeper (PyProof.Rows.envOfC "_law_made" (defScope sMade) s.heap.objs.size f cdv)) := hr.mono (by decide)
    refine ⟨_, pss_cons (ps_set (i := 1) nd rfl (.inl rfl) (StX.pe_makeR MK GI hr4 (by rfl) R.mgC pass0 (pa_cons (pe_ix ix_list (pv 0) pe_int (fun _ _ => rfl)) pa_nil)))
      (pss_cons (ps_for PassesOwn.never rfl (pi_list (pe_slice sl_list (pv 0) (po_some pe_int) po_none)) (pg_name (i := 2) nd rfl (.inl rfl))
        (pss_one (ps_set (i := 1) nd rfl (.inl rfl) (pe_op (op_addO hc hs hf GA hr pass0) (pv 1) (StX.pe_makeR MK GI hr4 (by rfl) R.mgC pass0 (pa_cons (pv 2) pa_nil))))))
      (pss_one (ps_ret (pv 1)))), ?_⟩
    have l1 : 1 ≤ secs.length := by
      cases h : secs with
      | nil => exact absurd h S.ne
      | cons _ _ => simp
    have ltk : ∀ j, 1 ≤ j → secs.take j ≠ [] := fun j hj h => by
      have := congrArg List.length h
      rw [List.length_take, List.length_nil] at this
      omega
    obtain ⟨s0, hs0⟩ : ∃ s, secs[0]? = some s := ⟨_, List.getElem?_eq_getElem (by omega)⟩
    obtain ⟨t0, ht0⟩ : ∃ t, ts[0]? = some t := ⟨_, List.getElem?_eq_getElem (by omega)⟩
    have ok0 := S.len s0 (List.mem_of_getElem? hs0)
    have tk1 : secs.take 1 = [s0] := by
      cases secs with
      | nil => simp at hs0
      | cons a r => cases Option.some.inj hs0; rfl
    refine ⟨_, rfl, l, _, (((0 : Nat) : Nat) : Int), .ref t0, rfl, rfl, SqL.of a1, atI_nat (map_at V.ref ht0), fun x dx hx hdx ne => make_one (a3 0 t0 s0 ht0 hs0) ok0.1 ok0.2 hx hdx ne fun H1 S1 R1 => ?_⟩
    refine ⟨_, rfl, 1, rfl, l, _, rfl, SqL.of (S1 _ _ a1), fun z hz => ?_⟩
    have hcut : cutV (ts.map V.ref) (some (1 : Int)) none = (ts.drop 1).map V.ref := by
      have := cut_from (l := ts.map V.ref) (k := 1) (by rw [List.length_map]; omega)
      rw [List.map_drop]
      exact this
    rw [hcut]
    have S2 : Same H1 (upd H1 z (.lst ((ts.drop 1).map V.ref))) := fun b o e => by rw [upd_ne (ne_of_none e hz)]; exact e
    refine ⟨z, rfl, ⟨_, SqL.of upd_same⟩, ?_⟩
    refine for_it walk_list (fun i σ H3 => ∃ (p : Addr) (v2 : Option V), σ = [some (.ref l), some (.ref p), v2] ∧ Same H H3 ∧ H3 z = some (.lst ((ts.drop 1).map V.ref)) ∧ H p = none ∧ RoadAt C H3 p (secs.take (i + 1)))
      ⟨x, none, rfl, S1.trans S2, upd_same, hx, by rw [tk1]; exact R1.ext (ExtN.same S2)⟩ (fun i σ H3 _ ⟨_, _, _, _, h, _⟩ => SqL.of h) ?_ ?_
    · rintro i y σ H3 H4 hi ⟨p, v2, rfl, S3, hz3, hp, R3⟩ ⟨e, hy⟩
      subst e
      obtain ⟨t, ht, rfl⟩ : ∃ t, ts[i + 1]? = some t ∧ y = V.ref t := by
        rw [List.getElem?_map, List.getElem?_drop] at hy
        obtain ⟨t, z1, z2⟩ := Option.map_eq_some_iff.mp hy
        exact ⟨t, by rw [Nat.add_comm]; exact z1, z2.symm⟩
      have hlt := (List.getElem?_eq_some_iff.mp ht).1
      obtain ⟨sc, hsc⟩ : ∃ s, secs[i + 1]? = some s := ⟨_, List.getElem?_eq_getElem (by omega)⟩
      have okc := S.len sc (List.mem_of_getElem? hsc)
      have tk : secs.take (i + 1 + 1) = secs.take (i + 1) ++ [sc] := by rw [List.take_succ, hsc]; rfl
      refine ⟨_, rfl, _, rfl, fun x2 dx2 hx2 hdx2 ne2 => make_one (S3 _ _ (a3 (i + 1) t sc ht hsc)) okc.1 okc.2 hx2 hdx2 ne2 fun H5 S5 R5 => ?_⟩
      have R4 : RoadAt C H5 p (secs.take (i + 1)) := R3.ext (ExtN.same S5)
      obtain ⟨pd, pt, pu, p1, _⟩ := id R4
      obtain ⟨qd, qt, qu, q1, _⟩ := id R5
      refine ⟨p, pd, _, x2, qd, _, rfl, rfl, p1, q1, p, x2, secs.take (i + 1), [sc], rfl, R4, R5, ltk _ (by omega), by simp, ?_, fun H6 p6 S6 hp6 R6 => ?_⟩
      · rw [← tk]
        exact ⟨ltk _ (by omega), Nat.le_trans (List.length_take_le' _ _) S.few, fun q hq => S.len q (List.mem_of_mem_take hq)⟩
      · refine ⟨p6, _, rfl, S3.trans (S5.trans S6), S6 _ _ (S5 _ _ hz3), ?_, by rw [tk]; exact R6⟩
        cases q : H p6 with
        | none => rfl
        | some o =>
          rw [S5 _ _ (S3 _ _ q)] at hp6
          cases hp6
    · rintro σ H3 ⟨p, v2, rfl, S3, hz3, hp, R3⟩
      refine ⟨_, rfl, k H3 p S3 hp ?_⟩
      have e : secs.take (((ts.drop 1).map V.ref).length + 1) = secs := by
        rw [List.length_map, List.length_drop]
        exact List.take_of_length_le (by omega)
      rw [e] at R3
      exact R3
end
end Sl

set_option Elab.async false
set_option linter.all false
set_option maxRecDepth 100000
set_option maxHeartbeats 1000000
namespace Sl
open PySem PySem.Spec L2 OwnR LamX
theorem boot_tList : bootBuiltins "list" = some (.type "list") := by decide +kernel
section
variable {P : Program} {w : World} {K : PySem.W.Frag} {mg : Str → Option Value} {base : Heap}
/-! ### _law_like, of what holds nothing in order -/
def LeafT (t : String) : Prop := t = "int" ∨ t = "str" ∨ t = "dict" ∨ t = "NoneType"
theorem LeafT.notTup {t : String} (h : LeafT t) : kitB t "tuple" = some false := by
  rcases h with h | h | h | h <;> subst h <;> decide +kernel
theorem LeafT.notList {t : String} (h : LeafT t) : kitB t "list" = some false := by
  rcases h with h | h | h | h <;> subst h <;> decide +kernel
theorem LeafT.notBool {t : String} (h : LeafT t) : kitB t "bool" = some false := by
  rcases h with h | h | h | h <;> subst h <;> decide +kernel
theorem LeafT.isInt {t : String} (h : LeafT t) : ∃ b, kitB t "int" = some b := by
  rcases h with h | h | h | h <;> subst h
  · exact ⟨true, by decide +kernel⟩
  · exact ⟨false, by decide +kernel⟩
  · exact ⟨false, by decide +kernel⟩
  · exact ⟨false, by decide +kernel⟩
theorem LeafT.isStr {t : String} (h : LeafT t) : ∃ b, kitB t "str" = some b := by
  rcases h with h | h | h | h <;> subst h
  · exact ⟨false, by decide +kernel⟩
  · exact ⟨true, by decide +kernel⟩
  · exact ⟨false, by decide +kernel⟩
  · exact ⟨false, by decide +kernel⟩
theorem ne_bl (b : Bool) : V.bl (!decide (V.bl b = V.bl b)) = V.bl false := by rw [decide_eq_true rfl]; rfl
def spLike0 (K : PySem.W.Frag) : Sp := fun vs H Q _ => ∃ (x y : V) (t : String), vs = [x, y] ∧ LeafT t ∧ TyOf K H x (.type t) ∧ TyOf K H y (.type t) ∧ (rEqD K x y H Q ∨ rEqDA x y H Q)
def nLike : List Str := ["_law_found", "_law_due", "_law_k"]
theorem scLike : FnScope nLike ["_law_found", "_law_due"] (defScope sLike) := ⟨rfl, rfl, rfl, by decide +kernel, rfl, by decide +kernel, by decide +kernel⟩
theorem ok_like0 {f : Addr} {fd : FuncData} (F : Fun K "_law_like" "_law_like" sLike f fd) (M : Mg mg) : FnOk P w K mg base CX0 1 f fd ["_law_found", "_law_due"] (spLike0 K) := by
  refine F.ok scLike (fun vs H Q E h => ?_) (fun cdv A outer s H vs Q E hr h => ?_)
  · obtain ⟨x, y, t, rfl, _⟩ := h
    rfl
  · obtain ⟨x, y, t, rfl, lt, tx, ty, q⟩ := h
    have nd := scLike.nd
    have hu64 : (A.deeper (PyProof.Rows.envOfC "_law_like" (defScope sLike) s.heap.objs.size f cdv)).units + 64 < cLine := hr.units
    refine ⟨_, pss_cons (ps_if (PW.pt (pw_or (pt_val (pe_callB call_isi (by rfl) M.isinstance boot_isinstance (pa_cons (pv 1) (pa_cons (pe_bltn (v := .ty "tuple") (by rfl) M.tuple boot_tTuple rfl) pa_nil))))
        (pw_or1 (pt_val (pe_callB call_isi (by rfl) M.isinstance boot_isinstance (pa_cons (pv 1) (pa_cons (pe_bltn (v := .ty "list") (by rfl) M.list boot_tList rfl) pa_nil))))))) (pss_cons ps_never (pss_cons ps_never (pss_one ps_never))) pss_nil)
      (pss_cons (ps_if (pt_cmpR op_ne (pe_callB call_isi (by rfl) M.isinstance boot_isinstance (pa_cons (pv 0) (pa_cons (pe_bltn (v := .ty "bool") (by rfl) M.bool boot_tBool rfl) pa_nil))) (pe_callB call_isi (by rfl) M.isinstance boot_isinstance (pa_cons (pv 1) (pa_cons (pe_bltn (v := .ty "bool") (by rfl) M.bool boot_tBool rfl) pa_nil))) (nomark _)) (pss_one ps_never) pss_nil)
      (pss_cons (ps_if (PW.pt (pw_or (pt_cmpR op_ne (pe_callB call_isi (by rfl) M.isinstance boot_isinstance (pa_cons (pv 0) (pa_cons (pe_bltn (v := .ty "int") (by rfl) M.int boot_tInt rfl) pa_nil))) (pe_callB call_isi (by rfl) M.isinstance boot_isinstance (pa_cons (pv 1) (pa_cons (pe_bltn (v := .ty "int") (by rfl) M.int boot_tInt rfl) pa_nil))) (nomark _))
        (pw_or1 (pt_cmpR op_ne (pe_callB call_isi (by rfl) M.isinstance boot_isinstance (pa_cons (pv 0) (pa_cons (pe_bltn (v := .ty "str") (by rfl) M.str boot_tStr rfl) pa_nil))) (pe_callB call_isi (by rfl) M.isinstance boot_isinstance (pa_cons (pv 1) (pa_cons (pe_bltn (v := .ty "str") (by rfl) M.str boot_tStr rfl) pa_nil))) (nomark _))))) (pss_one ps_never) pss_nil)
      (pss_one (ps_ret (pe_cmpR ((op_eqD hu64).or (op_eq_dictA (Nat.lt_of_le_of_lt (Nat.le_add_right _ 64) hu64))) (pv 0) (pv 1) (nomark _)))))), ?_⟩
    obtain ⟨bi, hbi⟩ := lt.isInt
    obtain ⟨bs, hbs⟩ := lt.isStr
    refine ⟨_, rfl, _, _, _, _, false, rfl, .ty _, .base ty, kit_ty lt.notTup, false, rfl, iteF ?_⟩
    refine ⟨_, rfl, _, _, _, _, false, rfl, .ty _, .base ty, kit_ty lt.notList, false, rfl, iteF ?_⟩
    refine ⟨_, rfl, _, _, _, _, false, rfl, .ty _, .base tx, kit_ty lt.notBool, _, rfl, _, _, _, _, false, rfl, .ty _, .base ty, kit_ty lt.notBool, rfl, false, ne_bl _, iteF ?_⟩
    refine ⟨_, rfl, _, _, _, _, bi, rfl, .ty _, .base tx, kit_ty hbi, _, rfl, _, _, _, _, bi, rfl, .ty _, .base ty, kit_ty hbi, rfl, false, ne_bl _, iteF ?_⟩
    refine ⟨_, rfl, _, _, _, _, bs, rfl, .ty _, .base tx, kit_ty hbs, _, rfl, _, _, _, _, bs, rfl, .ty _, .base ty, kit_ty hbs, rfl, false, ne_bl _, iteF ?_⟩
    exact ⟨_, rfl, _, rfl, q⟩
end
end Sl

set_option Elab.async false
set_option linter.all false
set_option maxRecDepth 100000
set_option maxHeartbeats 1000000
namespace Sl
open PySem PySem.Spec L2 OwnR LamX
section
variable {P : Program} {w : World} {K : PySem.W.Frag} {mg : Str → Option Value} {base : Heap}
/-! ### _law_like, of tuples and lists whose items are alike -/
def SeqK (H : Hp) (t : String) (a : Addr) (xs : List V) : Prop := (t = "tuple" ∧ H a = some (.tup xs)) ∨ (t = "list" ∧ H a = some (.lst xs))
theorem SeqK.ty {H : Hp} {t : String} {a : Addr} {xs : List V} (h : SeqK H t a xs) : TyOf K H (.ref a) (.type t) := by
  rcases h with ⟨rfl, h⟩ | ⟨rfl, h⟩
  · exact .tup h
  · exact .lst h
theorem SeqK.seq {H : Hp} {t : String} {a : Addr} {xs : List V} (h : SeqK H t a xs) : SqL K H a xs ∨ SqT K H a xs := by
  rcases h with ⟨rfl, h⟩ | ⟨rfl, h⟩
  · exact .inr (SqT.of h)
  · exact .inl (SqL.of h)
theorem SeqK.same {H H' : Hp} {t : String} {a : Addr} {xs : List V} (h : SeqK H t a xs) (e : Same H H') : SeqK H' t a xs := by
  rcases h with ⟨rfl, h⟩ | ⟨rfl, h⟩
  · exact .inl ⟨rfl, e _ _ h⟩
  · exact .inr ⟨rfl, e _ _ h⟩
theorem SeqK.ix {H : Hp} {t : String} {a : Addr} {xs : List V} {i : Nat} {v : V} {Q : VK} (h : SeqK H t a xs) (e : xs[i]? = some v) (q : Q v H) : rIx K (.ref a) (.int (i : Nat)) H Q := by
  rcases h with ⟨rfl, h⟩ | ⟨rfl, h⟩
  · exact .inr (.inl ⟨a, xs, _, v, rfl, rfl, SqT.of h, atI_nat e, q⟩)
  · exact .inl ⟨a, xs, _, v, rfl, rfl, SqL.of h, atI_nat e, q⟩
theorem SeqK.t {H : Hp} {t : String} {a : Addr} {xs : List V} (h : SeqK H t a xs) : t = "tuple" ∨ t = "list" := by
  rcases h with ⟨h, _⟩ | ⟨h, _⟩
  · exact .inl h
  · exact .inr h
def spLikeS (spE : Sp) : Sp := fun vs H Q _ => ∃ (a b : Addr) (t : String) (xs ys : List V), vs = [.ref a, .ref b] ∧ SeqK H t a xs ∧ SeqK H t b ys ∧ xs.length = ys.length ∧ ys.length ≤ 1000 ∧
  (∀ H', Same H H' → ∀ (i : Nat) (x y : V), xs[i]? = some x → ys[i]? = some y → ∀ Q' : VK, (∀ H'', Same H' H'' → Q' (.bl true) H'') → spE [x, y] H' Q' E0) ∧ ∀ H', Same H H' → Q (.bl true) H'
theorem ok_likeS {f : Addr} {fd : FuncData} {n : Nat} {spE : Sp} (B : Fb K mg "_law_like" sLike ["_law_found", "_law_due"] f fd) (M : Mg mg) (GE : FnOk P w K mg base CX0 n f fd ["_law_found", "_law_due"] spE) :
    FnOk P w K mg base CX0 (n + 1) f fd ["_law_found", "_law_due"] (spLikeS spE) := by
  refine B.fn.ok scLike (fun vs H Q E h => ?_) (fun cdv A outer s H vs Q E hr h => ?_)
  · obtain ⟨a, b, t, xs, ys, rfl, _⟩ := h
    rfl
  · obtain ⟨a, b, t, xs, ys, rfl, ha, hb, el, l1000, hE, k⟩ := h
    have nd := scLike.nd
    have hu64 : (A.deeper (PyProof.Rows.envOfC "_law_like" (defScope sLike) s.heap.objs.size f cdv)).units + 64 < cLine := hr.units
    refine ⟨_, pss_cons (ps_if (PW.pt (pw_or (pt_val (pe_callB call_isi (by rfl) M.isinstance boot_isinstance (pa_cons (pv 1) (pa_cons (pe_bltn (v := .ty "tuple") (by rfl) M.tuple boot_tTuple rfl) pa_nil))))
        (pw_or1 (pt_val (pe_callB call_isi (by rfl) M.isinstance boot_isinstance (pa_cons (pv 1) (pa_cons (pe_bltn (v := .ty "list") (by rfl) M.list boot_tList rfl) pa_nil)))))))
        (pss_cons (ps_if (pt_cmpR op_ne (pe_callB call_isi (by rfl) M.isinstance boot_isinstance (pa_cons (pv 0) (pa_cons (pe_bltn (v := .ty "tuple") (by rfl) M.tuple boot_tTuple rfl) pa_nil))) (pe_callB call_isi (by rfl) M.isinstance boot_isinstance (pa_cons (pv 1) (pa_cons (pe_bltn (v := .ty "tuple") (by rfl) M.tuple boot_tTuple rfl) pa_nil))) (nomark _)) (pss_one ps_never) pss_nil)
        (pss_cons (ps_if (PW.pt (pw_or (pt_cmpR op_ne (pe_callB call_isi (by rfl) M.isinstance boot_isinstance (pa_cons (pv 0) (pa_cons (pe_bltn (v := .ty "list") (by rfl) M.list boot_tList rfl) pa_nil))) (pe_callB call_isi (by rfl) M.isinstance boot_isinstance (pa_cons (pv 1) (pa_cons (pe_bltn (v := .ty "list") (by rfl) M.list boot_tList rfl) pa_nil))) (nomark _))
          (pw_or1 (pt_cmpR op_ne (pe_callB call_len_seq (by rfl) M.len boot_len (pa_cons (pv 0) pa_nil)) (pe_callB call_len_seq (by rfl) M.len boot_len (pa_cons (pv 1) pa_nil)) (nomark _))))) (pss_one ps_never) pss_nil)
        (pss_one (ps_ret (pe_cmpR (op_eqD hu64) (pe_lc (own := [("_law_k", 2)]) (g := gName 2) (tt := tNot (tB (tCall spE [] E0 (tCons (tOp (rIx K) (tVar 0) (tVar 2)) (tCons (tOp (rIx K) (tVar 1) (tVar 2)) tNil))))) (te := tVar 2) (by rfl) nd (pi_range1 (by rfl) M.range (pa_cons (pe_callB call_len_seq (by rfl) M.len boot_len (pa_cons (pv 1) pa_nil)) pa_nil)) (blkOk_by (N := nLike) (sc := defScope sLike) (by decide +kernel))
            (fun _ _ _ _ _ => pg_name (i := 2) nd rfl (Or.inl rfl)) (fun _ _ _ _ _ => pts_one (pt_not (pt_val (pe_call GE hr (by rfl) B.at_ B.fn.kp B.bd .nil pass0 (pa_cons (pe_ix (r := rIx K) ix_seq (pv 0) (pv 2) (fun _ _ => rfl)) (pa_cons (pe_ix (r := rIx K) ix_seq (pv 1) (pv 2) (fun _ _ => rfl)) pa_nil)))))) (fun _ _ _ _ _ => pv 2)) (pe_lst pa_nil) (nomark _)))))) pss_nil)
      (pss_cons ps_never (pss_cons ps_never (pss_one ps_never))), ?_⟩
    obtain ⟨bT, hbT⟩ : ∃ b, kitB t "tuple" = some b := by
      rcases hb.t with h | h <;> subst h
      · exact ⟨true, by decide +kernel⟩
      · exact ⟨false, by decide +kernel⟩
    obtain ⟨bL, hbL⟩ : ∃ b, kitB t "list" = some b := by
      rcases hb.t with h | h <;> subst h
      · exact ⟨false, by decide +kernel⟩
      · exact ⟨true, by decide +kernel⟩
    have head : kitB t "tuple" = some true ∨ (kitB t "tuple" = some false ∧ kitB t "list" = some true) := by
      rcases hb.t with h | h <;> subst h
      · exact .inl (by decide +kernel)
      · exact .inr ⟨by decide +kernel, by decide +kernel⟩
    rcases head with h1 | ⟨h1, h2⟩
    refine ⟨_, rfl, _, _, _, _, true, rfl, .ty _, .base hb.ty, kit_ty h1, true, rfl, iteT (iteT ?_)⟩
    rotate_left
    refine ⟨_, rfl, _, _, _, _, false, rfl, .ty _, .base hb.ty, kit_ty h1, false, rfl, iteF ⟨_, rfl, _, _, _, _, true, rfl, .ty _, .base hb.ty, kit_ty h2, true, rfl, iteT ?_⟩⟩
    rotate_left
    all_goals
      refine ⟨_, rfl, _, _, _, _, bT, rfl, .ty _, .base ha.ty, kit_ty hbT, _, rfl, _, _, _, _, bT, rfl, .ty _, .base hb.ty, kit_ty hbT, rfl, false, ne_bl _, iteF ?_⟩
      refine ⟨_, rfl, _, _, _, _, bL, rfl, .ty _, .base ha.ty, kit_ty hbL, _, rfl, _, _, _, _, bL, rfl, .ty _, .base hb.ty, kit_ty hbL, rfl, false, ne_bl _, iteF ?_⟩
      refine ⟨_, rfl, a, xs, rfl, ha.seq, _, rfl, b, ys, rfl, hb.seq, rfl, false, by rw [el, decide_eq_true rfl]; rfl, iteF ?_⟩
      refine ⟨_, rfl, b, ys, rfl, hb.seq, ((ys.length : Nat) : Int), rfl, by omega, by omega, fun D hD => ?_⟩
      rw [Int.toNat_natCast]
      refine lc_it walk_range (fun i H1 => Same H H1 ∧ H1 D = some (.lst []))
        ⟨fun p o e => by rw [upd_ne (ne_of_none e hD)]; exact e, upd_same⟩ (fun _ _ _ _ => True.intro) ?_ ?_
      · rintro i z H1 H2 hi ⟨k1, hD1⟩ ⟨e, ez⟩
        have ez2 : z = V.int ((i : Nat) : Int) := by
          rw [ez]
          show V.int (0 + ((i : Nat) : Int)) = _
          rw [Int.zero_add]
        clear ez
        subst e ez2
        obtain ⟨x, hx⟩ : ∃ x, xs[i]? = some x := ⟨_, List.getElem?_eq_getElem (by omega)⟩
        obtain ⟨y, hy⟩ : ∃ x, ys[i]? = some x := ⟨_, List.getElem?_eq_getElem (by omega)⟩
        refine ⟨rfl, ?_⟩
        refine ⟨_, rfl, _, rfl, (ha.same k1).ix hx ?_⟩
        refine ⟨_, rfl, _, rfl, (hb.same k1).ix hy ?_⟩
        exact hE _ k1 i x y hx hy _ fun H3 k3 => ⟨true, rfl, iteF ⟨k1.trans k3, k3 _ _ hD1⟩⟩
      · rintro H1 ⟨k1, hD1⟩
        refine ⟨Nat.zero_le _, fun D2 hD2 => ?_⟩
        have S2 : Same H1 (upd H1 D2 (.lst [])) := fun p o e => by rw [upd_ne (ne_of_none e hD2)]; exact e
        exact ⟨.list [], .list [], .lst (SqL.of (S2 _ _ hD1)) .nil, .lst (SqL.of upd_same) .nil, rfl, rfl, k _ (k1.trans S2)⟩
end
end Sl

set_option Elab.async false
set_option linter.all false
set_option maxRecDepth 100000
set_option maxHeartbeats 1000000
namespace Sl
open PySem PySem.Spec L2 OwnR LamX
def Shp (n : Nat) (d : PyData) : Prop := d.canLay0 = true ∧ d.depth ≤ n
theorem Shp.ok {n : Nat} {d : PyData} (h : Shp n d) (hn : n ≤ 64) : SeqAt.shaped d = true := by
  unfold SeqAt.shaped
  rw [h.1, decide_eq_true (Nat.le_trans h.2 hn)]
  rfl
theorem shp_all {n : Nat} : ∀ {ds : List PyData}, (∀ d ∈ ds, Shp n d) → PyData.canLayAll0 ds = true ∧ PyData.depthAll ds ≤ n
  | [], _ => ⟨rfl, Nat.zero_le _⟩
  | d :: ds, h => by
    have h1 := h d List.mem_cons_self
    have h2 := shp_all (ds := ds) fun e he => h e (List.mem_cons_of_mem _ he)
    refine ⟨?_, ?_⟩
    · show (d.canLay0 && PyData.canLayAll0 ds) = true
      rw [h1.1, h2.1]
      rfl
    · show max d.depth (PyData.depthAll ds) ≤ n
      exact Nat.max_le.mpr ⟨h1.2, h2.2⟩
theorem shp_list {n : Nat} {ds : List PyData} (h : ∀ d ∈ ds, Shp n d) : Shp (n + 1) (.list ds) := ⟨(shp_all h).1, Nat.succ_le_succ (shp_all h).2⟩
theorem shp_tuple {n : Nat} {ds : List PyData} (h : ∀ d ∈ ds, Shp n d) : Shp (n + 1) (.tuple ds) := ⟨(shp_all h).1, Nat.succ_le_succ (shp_all h).2⟩
theorem shp_int (i : Int) : Shp 0 (.int i) := ⟨rfl, Nat.le_refl _⟩
theorem shp_non : Shp 0 .none := ⟨rfl, Nat.le_refl _⟩
theorem shp_str {x : Str} (h : PyData.strOk x = true) : Shp 0 (.str x) := ⟨h, Nat.le_refl _⟩
theorem Shp.same {n : Nat} {d : PyData} (h : Shp n d) : PyData.eqv d d = true := SeqAt.eqv_refl d h.1
theorem dp_refs {K : PySem.W.Frag} {H : Hp} {α : Type} (f : α → PyData) : ∀ {as : List Addr} {l : List α}, as.length = l.length → (∀ (i : Nat) (a : Addr) (x : α), as[i]? = some a → l[i]? = some x → Dp K H (.ref a) (f x)) → DpAll K H (as.map V.ref) (l.map f)
  | [], [], _, _ => .nil
  | a :: as, x :: l, hl, h => .cons (h 0 a x rfl rfl) (dp_refs f (by simpa using hl) fun i b y e1 e2 => h (i + 1) b y (by simpa using e1) (by simpa using e2))
theorem dp_vals {K : PySem.W.Frag} {H : Hp} {α : Type} (v : α → V) (f : α → PyData) (h : ∀ x, Dp K H (v x) (f x)) : ∀ (l : List α), DpAll K H (l.map v) (l.map f)
  | [] => .nil
  | x :: l => .cons (h x) (dp_vals v f h l)
/-! ### what the law compares, as data -/
def NamesOk (cars : List Car) : Prop := ∀ n ∈ names cars, PyData.strOk n = true
theorem namesOk {cars : List Car} (CO : CarsOk cars) : NamesOk cars := fun n hn => by
  obtain ⟨c, hc, rfl⟩ := List.mem_map.mp hn
  obtain ⟨_, _, h⟩ := (CO.all c hc).nm
  unfold PyData.strOk
  rw [Array.all_eq_true_iff_forall_mem]
  intro x hx
  have := h x (by rw [Array.mem_toList_iff]; exact hx)
  simp
  omega
def intsD (l : List Int) : PyData := .list (l.map PyData.int)
theorem shp_intsD (l : List Int) : Shp 1 (intsD l) := shp_list fun d hd => by
  obtain ⟨i, _, rfl⟩ := List.mem_map.mp hd
  exact shp_int i
theorem dp_ints {K : PySem.W.Frag} {H : Hp} {a : Addr} {l : List Int} (h : H a = some (.lst (l.map V.int))) : Dp K H (.ref a) (intsD l) := .lst (SqL.of h) (dp_vals V.int PyData.int (fun i => .int i) l)
def strsD (l : List Str) : PyData := .list (l.map PyData.str)
theorem shp_strsD {l : List Str} (h : ∀ n ∈ l, PyData.strOk n = true) : Shp 1 (strsD l) := shp_list fun d hd => by
  obtain ⟨i, hi, rfl⟩ := List.mem_map.mp hd
  exact shp_str (h i hi)
theorem dp_strs {K : PySem.W.Frag} {H : Hp} {a : Addr} {l : List Str} (h : H a = some (.lst (l.map V.str))) : Dp K H (.ref a) (strsD l) := .lst (SqL.of h) (dp_vals V.str PyData.str (fun i => .str i) l)
def optD : Option Str → PyData
  | some s => .str s
  | none => .none
theorem dp_opt {K : PySem.W.Frag} {H : Hp} (o : Option Str) : Dp K H (strO o) (optD o) := by
  cases o with
  | none => exact .non
  | some s => exact .str s
def optsD (l : List (Option Str)) : PyData := .list (l.map optD)
theorem shp_optsD {l : List (Option Str)} (h : ∀ n, some n ∈ l → PyData.strOk n = true) : Shp 1 (optsD l) := shp_list fun d hd => by
  obtain ⟨o, ho, rfl⟩ := List.mem_map.mp hd
  cases o with
  | none => exact shp_non
  | some s => exact shp_str (h s ho)
theorem dp_opts {K : PySem.W.Frag} {H : Hp} {a : Addr} {l : List (Option Str)} (h : H a = some (.lst (l.map strO))) : Dp K H (.ref a) (optsD l) := .lst (SqL.of h) (dp_vals strO optD dp_opt l)
theorem dp_intsT {K : PySem.W.Frag} {H : Hp} {a : Addr} {l : List Int} (h : H a = some (.tup (l.map V.int))) : Dp K H (.ref a) (.tuple (l.map PyData.int)) := .tup (SqT.of h) (dp_vals V.int PyData.int (fun i => .int i) l)
theorem shp_intsT (l : List Int) : Shp 1 (.tuple (l.map PyData.int)) := shp_tuple fun d hd => by
  obtain ⟨i, _, rfl⟩ := List.mem_map.mp hd
  exact shp_int i
theorem eqvAll_ints : ∀ a b : List Int, PyData.eqvAll (a.map PyData.int) (b.map PyData.int) = decide (a = b)
  | [], [] => rfl
  | [], _ :: _ => rfl
  | _ :: _, [] => rfl
  | x :: a, y :: b => by
    show (PyData.eqv (.int x) (.int y) && PyData.eqvAll (a.map PyData.int) (b.map PyData.int)) = _
    rw [eqvAll_ints a b]
    by_cases h : x = y <;> by_cases g : a = b <;> simp [PyData.eqv, h, g]
theorem eqv_intsT (a b : List Int) : PyData.eqv (.tuple (a.map PyData.int)) (.tuple (b.map PyData.int)) = decide (a = b) := eqvAll_ints a b
theorem eqv_intsL (a b : List Int) : PyData.eqv (.list (a.map PyData.int)) (.list (b.map PyData.int)) = decide (a = b) := eqvAll_ints a b
theorem sameNew {H : Hp} {p : Addr} (h : H p = none) (o : HO) : Same H (upd H p o) := fun b x e => by rw [upd_ne (ne_of_none e h)]; exact e
theorem TupsAt.ext {H H' : Hp} {a : Addr} {vss : List (List V)} (h : TupsAt H a vss) (e : ExtN H H') : TupsAt H' a vss := by
  obtain ⟨ts, h1, h2, h3⟩ := h
  exact ⟨ts, ExtN.lst e h1, h2, fun i t v e1 e2 => ExtN.tup e (h3 i t v e1 e2)⟩
theorem RoadAt.ext2 {C : Addr} {H H' : Hp} {p : Addr} {secs : List Sec} (h : RoadAt C H p secs) (e : ExtN H H') : RoadAt C H' p secs := by
  obtain ⟨dx, t, u, h1, h2, h3⟩ := h
  exact ⟨dx, t, u, ExtN.ins e h1, h2.ext e, h3⟩
theorem strO_eq (o : Option Str) (n : Str) : decide (strO o = V.str n) = decide (o = some n) := by
  cases o with
  | none => simp [strO]
  | some m => simp [strO]
theorem strO_scal (o : Option Str) (n : Str) : scal (strO o) (.str n) = true := by cases o <;> rfl
theorem posL_get {n : Str} {l : List Str} (nd : l.Nodup) {i : Nat} (h : l[i]? = some n) : posL n l = i := by
  have hm := List.mem_of_getElem? h
  exact nd_ix nd (posL_at hm) h
/-- leaders are cars -/
theorem foll_lead (fr : Str → Int) (ord : List Str) : ∀ r ∈ foll fr ord, ∀ m, r.2.2 = some m → m ∈ ord := by
  have h : ∀ (l : List Str) (pre : List Str) (acc : List (RowT Str)), acc.map (·.1) = pre → (∀ r ∈ acc, ∀ m, r.2.2 = some m → m ∈ pre) → ∀ r ∈ l.foldl (fun acc n => acc ++ [fnext fr acc n]) acc, ∀ m, r.2.2 = some m → m ∈ pre ++ l := by
    intro l
    induction l with
    | nil => intro pre acc _ h; simpa using h
    | cons n q ih =>
      intro pre acc e h
      rw [List.foldl_cons]
      have := ih (pre ++ [n]) (acc ++ [fnext fr acc n]) (by rw [List.map_append, e]; simp [fnext_name]) fun r hr m hm => by
        rcases List.mem_append.mp hr with hr | hr
        · exact List.mem_append_left _ (h r hr m hm)
        · rw [List.mem_singleton.mp hr] at hm
          refine List.mem_append_left _ ?_
          unfold fnext at hm
          split at hm
          · cases hm
          · rename_i a t lo hl
            have hmem := List.mem_of_getLast? hl
            split at hm
            · have hm : some (lo.getD a) = some m := hm
              have hm := Option.some.inj hm
              cases lo with
              | none =>
                rw [← hm, ← e]
                exact List.mem_map.mpr ⟨_, hmem, rfl⟩
              | some b =>
                rw [← hm]
                exact h _ hmem b rfl
            · cases hm
      simpa using this
  intro r hr m hm
  have := h ord [] [] rfl (fun r hr => nomatch hr) r hr m hm
  simpa using this
theorem ldrC_in {secs : List Sec} {cars : List Car} {k : Nat} {n m : Str} (h : ldrC secs cars k n = some m) : m ∈ names cars := by
  have h : ldr (paceOf cars) (pl0 cars) secs k n = some m := h
  unfold ldr at h
  cases hs : secs[k]? with
  | none => rw [hs] at h; cases h
  | some s =>
    rw [hs] at h
    have h : leadP (paceOf cars) (plcC secs cars k) s n = some m := h
    unfold leadP at h
    split at h
    · cases h
    · unfold leadOf look at h
      cases q : (foll (freeP (paceOf cars) (plcC secs cars k) s.2) (plcC secs cars k).ord).find? (fun r => decide (r.1 = n)) with
      | none => rw [q] at h; cases h
      | some r =>
        rw [q] at h
        have h : r.2.2 = some m := h
        exact (plcC_perm secs cars k).mem_iff.mp (foll_lead _ _ r (List.mem_of_find?_eq_some q) m h)
theorem like_int {K : PySem.W.Frag} {i : Int} {H : Hp} {Q : VK} (k : Q (.bl true) H) : spLike0 K [.int i, .int i] H Q E0 :=
  ⟨_, _, "int", rfl, .inl rfl, .int i, .int i, .inl ⟨_, _, .int i, .int i, (shp_int i).ok (by decide), (shp_int i).ok (by decide), by rw [(shp_int i).same]; exact k⟩⟩
theorem like_str {K : PySem.W.Frag} {x : Str} (hx : PyData.strOk x = true) {H : Hp} {Q : VK} (k : Q (.bl true) H) : spLike0 K [.str x, .str x] H Q E0 :=
  ⟨_, _, "str", rfl, .inr (.inl rfl), .str x, .str x, .inl ⟨_, _, .str x, .str x, (shp_str hx).ok (by decide), (shp_str hx).ok (by decide), by rw [(shp_str hx).same]; exact k⟩⟩
theorem like_non {K : PySem.W.Frag} {H : Hp} {Q : VK} (k : Q (.bl true) H) : spLike0 K [.non, .non] H Q E0 :=
  ⟨_, _, "NoneType", rfl, .inr (.inr (.inr rfl)), .non, .non, .inl ⟨_, _, .non, .non, shp_non.ok (by decide), shp_non.ok (by decide), by rw [shp_non.same]; exact k⟩⟩
theorem like_dict {K : PySem.W.Frag} {a b : Addr} {kv : List (Key × V)} {H : Hp} (ha : H a = some (.dK kv)) (hb : H b = some (.dK kv)) (hv : ∀ p ∈ kv, valV kv p.1 = some p.2 ∧ flatB p.2 = true) {Q : VK} (k : Q (.bl true) H) : spLike0 K [.ref a, .ref b] H Q E0 :=
  ⟨_, _, "dict", rfl, .inr (.inr (.inl rfl)), .dK ha, .dK hb, .inr ⟨a, b, kv, kv, rfl, rfl, ha, hb, rfl, hv, k⟩⟩
theorem lossK_self {secs : List Sec} {cars : List Car} (nd : (names cars).Nodup) : ∀ p ∈ lossK secs cars, valV (lossK secs cars) p.1 = some p.2 ∧ flatB p.2 = true := fun p hp => by
  obtain ⟨c, hc, rfl⟩ := List.mem_map.mp hp
  exact ⟨valV_names (g := fun c => V.int (lossOf secs cars c)) nd hc, rfl⟩

theorem like_strs {K : PySem.W.Frag} {a b : Addr} {l : List Str} {H : Hp} (ha : H a = some (.lst (l.map V.str))) (hb : H b = some (.lst (l.map V.str))) (ok : ∀ n ∈ l, PyData.strOk n = true) (hl : l.length ≤ 1000) {Q : VK} (k : ∀ H', Same H H' → Q (.bl true) H') : spLikeS (spLike0 K) [.ref a, .ref b] H Q E0 := by
  refine ⟨a, b, "list", l.map V.str, l.map V.str, rfl, .inr ⟨rfl, ha⟩, .inr ⟨rfl, hb⟩, rfl, by rw [List.length_map]; exact hl, fun H' k' i x y hx hy Q' hQ => ?_, k⟩
  rw [hx] at hy
  rw [← Option.some.inj hy]
  rw [List.getElem?_map] at hx
  obtain ⟨n, hn, rfl⟩ := Option.map_eq_some_iff.mp hx
  exact like_str (ok n (List.mem_of_getElem? hn)) (hQ _ fun _ _ z => z)
theorem like_opts {K : PySem.W.Frag} {a b : Addr} {l : List (Option Str)} {H : Hp} (ha : H a = some (.lst (l.map strO))) (hb : H b = some (.lst (l.map strO))) (ok : ∀ n, some n ∈ l → PyData.strOk n = true) (hl : l.length ≤ 1000) {Q : VK} (k : ∀ H', Same H H' → Q (.bl true) H') : spLikeS (spLike0 K) [.ref a, .ref b] H Q E0 := by
  refine ⟨a, b, "list", l.map strO, l.map strO, rfl, .inr ⟨rfl, ha⟩, .inr ⟨rfl, hb⟩, rfl, by rw [List.length_map]; exact hl, fun H' k' i x y hx hy Q' hQ => ?_, k⟩
  rw [hx] at hy
  rw [← Option.some.inj hy]
  rw [List.getElem?_map] at hx
  obtain ⟨n, hn, rfl⟩ := Option.map_eq_some_iff.mp hx
  cases n with
  | none => exact like_non (hQ _ fun _ _ z => z)
  | some m => exact like_str (ok m (List.mem_of_getElem? hn)) (hQ _ fun _ _ z => z)
theorem like_strss {K : PySem.W.Frag} {a b : Addr} {as bs : List Addr} {ls : List (List Str)} {H : Hp} (ha : H a = some (.lst (as.map V.ref))) (hb : H b = some (.lst (bs.map V.ref))) (la : as.length = ls.length) (lb : bs.length = ls.length)
    (va : ∀ (i : Nat) (d : Addr) (l : List Str), as[i]? = some d → ls[i]? = some l → H d = some (.lst (l.map V.str))) (vb : ∀ (i : Nat) (d : Addr) (l : List Str), bs[i]? = some d → ls[i]? = some l → H d = some (.lst (l.map V.str)))
    (ok : ∀ l ∈ ls, (∀ n ∈ l, PyData.strOk n = true) ∧ l.length ≤ 1000) (hl : ls.length ≤ 1000) {Q : VK} (k : ∀ H', Same H H' → Q (.bl true) H') : spLikeS (spLikeS (spLike0 K)) [.ref a, .ref b] H Q E0 := by
  refine ⟨a, b, "list", as.map V.ref, bs.map V.ref, rfl, .inr ⟨rfl, ha⟩, .inr ⟨rfl, hb⟩, by rw [List.length_map, List.length_map, la, lb], by rw [List.length_map, lb]; exact hl, fun H' k' i x y hx hy Q' hQ => ?_, k⟩
  rw [List.getElem?_map] at hx hy
  obtain ⟨d, hd, rfl⟩ := Option.map_eq_some_iff.mp hx
  obtain ⟨e, he, rfl⟩ := Option.map_eq_some_iff.mp hy
  obtain ⟨l, hll⟩ : ∃ l, ls[i]? = some l := ⟨_, List.getElem?_eq_getElem (by rw [← la]; exact (List.getElem?_eq_some_iff.mp hd).1)⟩
  obtain ⟨o1, o2⟩ := ok l (List.mem_of_getElem? hll)
  exact like_strs (k' _ _ (va i d l hd hll)) (k' _ _ (vb i e l he hll)) o1 o2 hQ
end Sl

set_option Elab.async false
set_option linter.all false
set_option maxRecDepth 100000
set_option maxHeartbeats 2000000
namespace Sl
open PySem PySem.Spec L2 OwnR LamX
/-- sections that are wide, too -/
def widen (secs : List Sec) (ixs : List Nat) : List Sec := secs.mapIdx fun i s => (decide (i ∈ ixs) || s.1, s.2)
theorem widen_get {secs : List Sec} {ixs : List Nat} {i : Nat} {s : Sec} (h : secs[i]? = some s) : (widen secs ixs)[i]? = some (decide (i ∈ ixs) || s.1, s.2) := by
  unfold widen
  rw [List.getElem?_mapIdx, h]
  rfl
theorem widen_len (secs : List Sec) (ixs : List Nat) : (widen secs ixs).length = secs.length := by
  unfold widen
  rw [List.length_mapIdx]
theorem widen_ok {secs : List Sec} (S : SecsOk secs) (ixs : List Nat) : SecsOk (widen secs ixs) where
  ne := fun z => by
    have := congrArg List.length z
    rw [widen_len] at this
    exact S.ne (List.length_eq_zero_iff.mp this)
  few := by rw [widen_len]; exact S.few
  len := fun s hs => by
    obtain ⟨i, hi⟩ := List.mem_iff_getElem?.mp hs
    have il : i < secs.length := by
      have := (List.getElem?_eq_some_iff.mp hi).1
      rw [widen_len] at this
      exact this
    rw [widen_get (List.getElem?_eq_getElem il)] at hi
    rw [← Option.some.inj hi]
    have := S.len secs[i] (List.getElem_mem il)
    exact this
theorem widen_all {secs : List Sec} (h : ∀ s ∈ secs, s.1 = true) (ixs : List Nat) : widen secs ixs = secs := by
  apply List.ext_getElem?
  intro i
  rcases Nat.lt_or_ge i secs.length with lt | ge
  · have e := List.getElem?_eq_getElem lt
    rw [widen_get e, e, h _ (List.getElem_mem lt), Bool.or_true]
    have := h _ (List.getElem_mem lt)
    rw [← this]
  · rw [List.getElem?_eq_none (by rw [widen_len]; exact ge), List.getElem?_eq_none ge]
theorem kindS_true : kindS true = ("wide" : Str) := rfl
theorem in_nats (a : Nat) : ∀ l : List Nat, inV (V.int ((a : Nat) : Int)) (l.map fun n => V.int ((n : Nat) : Int)) = decide (a ∈ l)
  | [] => rfl
  | b :: l => by
    have ih := in_nats a l
    unfold inV at ih ⊢
    rw [List.map_cons, List.any_cons, ih]
    by_cases e : a = b
    · subst e
      simp [eqV]
    · have : ¬ ((a : Nat) : Int) = ((b : Nat) : Int) := by omega
      simp [eqV, e, this]
      intro z
      omega
theorem flat_nats (l : List Nat) : (l.map fun n => V.int ((n : Nat) : Int)).all flatV = true := by
  rw [List.all_map]
  exact List.all_eq_true.mpr fun _ _ => rfl
section
variable {P : Program} {w : World} {K : PySem.W.Frag} {mg : Str → Option Value} {base : Heap}
/-! ### widened -/
def spWid0 (C : Addr) : Sp := fun vs H Q _ => ∃ (p t : Addr) (secs : List Sec) (ixs : List Nat), vs = [.ref p, .ref t] ∧ H t = some (.tup (ixs.map fun n => V.int ((n : Nat) : Int))) ∧ RoadAt C H p secs ∧ SecsOk secs ∧ ixs.length ≤ 1000 ∧ (∀ i ∈ ixs, i < secs.length) ∧
  ∀ H' q, Same H H' → RoadAt C H' q (widen secs ixs) → Q (.ref q) H'
abbrev spWid (C : Addr) : Sp := fun vs H Q E => ∃ ws rest, vs = ws ++ rest ∧ ws.length = (["self"] : List Str).length ∧ rest.length ≤ sizeLine ∧ ∀ p, H p = Option.none → spWid0 C (ws ++ [V.ref p]) (upd H p (.tup rest)) Q E
def nWid : List Str := ["self", "indexes", "index", "sections", "at", "kind", "length"]
theorem scWid : FnScope nWid ["self", "indexes"] (defScope sRWidened) := ⟨rfl, rfl, rfl, by decide +kernel, rfl, by decide +kernel, by decide +kernel⟩
theorem ok_widened {f fI fB C lp kp : Addr} {fd dB : FuncData} (F : Fun K "widened" "Road.widened" sRWidened f fd) (M : Mg mg) (R : RoadT K w mg C lp kp) (MK : Mk K C fI)
    (GI : FnR P w K mg base CX0 3 fI (spRInit C)) (BB : Fb K mg "is_number" sIsNumber ["value", "least", "most"] fB dB) (GB : FnOk P w K mg base CX0 1 fB dB ["value", "least", "most"] spIsNumber) : FnR P w K mg base CX0 5 f (spWid C) := by
  obtain ⟨oc, od, kV, doc, pm, an, cdv, ct, osl, rfl, lk, hcd⟩ := F.ex
  refine StX.fn_star lk hcd scWid StX.cxUp_none (StX.bind_star1 (p1 := "self") (pv := "indexes") (B := fun xs => bindArgs (PySem.W.fnOf "widened" "Road.widened" (defArgs sRWidened) (defBody sRWidened) (defScope sRWidened) .none kV doc pm an cdv ct) ⟨xs, []⟩) (fun _ => rfl) (fun _ _ _ => rfl)) fun A outer s H vs Q E hr h => ?_
  obtain ⟨p, t, secs, ixs, rfl, ht, ⟨dx, at_, u, hp, ⟨ts, a2, a3, a4⟩, hu⟩, S, i1000, hix, k⟩ := h
  have nd := scWid.nd
  have hr1 : Room 1 (A.deeper (PyProof.Rows.envOfC "Road.widened" (defScope sRWidened) s.heap.objs.size f cdv)) := hr.mono (by decide)
  refine ⟨_, PSs.nox (pss_cons (ps_for PassesOwn.never rfl (pi_tup (pv 1)) (pg_name (i := 2) nd rfl (.inl rfl))
      (pss_one (ps_if (pt_not (pt_val (pe_call GB hr1 (by rfl) BB.at_ BB.fn.kp BB.bd .nil pass0 (pa_cons (pv 2) (pa_cons pe_int (pa_cons (pe_op op_sub (pe_callB call_len_seq (by rfl) M.len boot_len (pa_cons (pe_fld (pv 0) rfl) pa_nil)) pe_int) pa_nil)))))) (pss_one ps_never) pss_nil)))
    (pss_cons (ps_setLc (i := 3) (own := [("at", 4), ("kind", 5), ("length", 6)]) (g := gTup K 2 (gCons (gName 4) (gCons (gTup K 2 (gCons (gName 5) (gCons (gName 6) gNil))) gNil))) (tt := tYes) (te := tTup (tCons (tIf (tTest (tOp (rIn K false) (tVar 4) (tVar 1))) (tC (.str "wide")) (tVar 5)) (tCons (tVar 6) tNil))) (by rfl) nd rfl rfl (sw_true rfl rfl rfl (by decide +kernel))
        (pi_enumT (by rfl) M.enumerate (pa_cons (pe_fld (pv 0) rfl) pa_nil)) (blkOk_by (N := nWid) (sc := defScope sRWidened) (by decide +kernel))
        (fun _ _ _ _ _ => pg_tup rfl (pgs_cons (pg_name (i := 4) nd rfl (Or.inl rfl)) (pgs_cons (pg_tup rfl (pgs_cons (pg_name (i := 5) nd rfl (Or.inl rfl)) (pgs_cons (pg_name (i := 6) nd rfl (Or.inl rfl)) pgs_nil))) pgs_nil))) (fun _ _ _ _ _ => pts_nil)
        (fun _ _ _ _ _ => pe_tup (pa_cons (pe_ifExp (pt_cmpR op_in_seq (pv 4) (pv 1) (by rfl)) pe_str (pv 5)) (pa_cons (pv 6) pa_nil))))
    (pss_one (ps_ret (pe_makeGS MK GI hr pass0 (by rfl) R.mgC (pv 3)))))), ?_⟩
  have few := S.few
  have hts : (ts.map V.ref).length = secs.length := by rw [List.length_map, a3]
  refine ⟨_, rfl, t, rfl, ⟨_, SqT.of ht⟩, for_it walk_tup (fun i σ H1 => ∃ v2, σ = [some (.ref p), some (.ref t), v2, none, none, none, none] ∧ Same H H1) ⟨none, rfl, Same.refl H⟩ (fun i σ H1 _ ⟨_, _, s1⟩ => SqT.of (s1 _ _ ht)) ?_ ?_⟩
  · rintro i y σ H1 H2 hi ⟨v2, rfl, s1⟩ ⟨e, hy⟩
    subst e
    obtain ⟨n, hn, rfl⟩ : ∃ n, ixs[i]? = some n ∧ y = V.int ((n : Nat) : Int) := by
      rw [List.getElem?_map] at hy
      obtain ⟨t, z1, z2⟩ := Option.map_eq_some_iff.mp hy
      exact ⟨t, z1, z2.symm⟩
    have nl := hix n (List.mem_of_getElem? hn)
    refine ⟨_, rfl, _, rfl, p, C, dx, _, _, rfl, s1 _ _ hp, R.cl, R.nS, rf_sections _ _, at_, _, rfl, .inr (SqT.of (s1 _ _ a2)), _, _, rfl, rfl, (n : Nat), 0, _, rfl, true, ?_, iteF ⟨_, rfl, s1⟩⟩
    rw [hts]
    rw [decide_eq_true (by omega : (0 : Int) ≤ (n : Int)), decide_eq_true (by omega : (n : Int) ≤ ((secs.length : Nat) : Int) - 1)]
    rfl
  · rintro σ H1 ⟨v2, rfl, s1⟩
    refine ⟨_, rfl, p, C, dx, _, _, rfl, s1 _ _ hp, R.cl, R.nS, rf_sections _ _, at_, _, rfl, SqT.of (s1 _ _ a2), fun D hD => ?_⟩
    have hDH : H D = none := by
      cases q : H D with
      | none => rfl
      | some o => rw [s1 _ _ q] at hD; cases hD
    refine lc_it walk_enumT (fun i H2 => Same H1 H2 ∧ ∃ us : List Addr, H2 D = some (.lst (us.map V.ref)) ∧ us.length = i ∧ ∀ (q : Nat) (t : Addr) (s : Sec), us[q]? = some t → (widen secs ixs)[q]? = some s → H2 t = some (.tup (secV s)))
      ⟨sameNew hD _, [], upd_same, rfl, fun q t c e => by simp at e⟩ (fun i H2 _ ⟨k2, _⟩ => SqT.of (k2 _ _ (s1 _ _ a2))) ?_ ?_
    · rintro i y H2 H3 hi ⟨k2, us, u1, u2, u3⟩ ⟨T, x1, x2, rfl, hT, rfl, e1, e2⟩
      cases e1
      have hic : i < secs.length := by rw [hts] at hi; exact hi
      have e2 : (ts.map V.ref)[i]? = some x2 := e2
      obtain ⟨tt, htt, rfl⟩ : ∃ t, ts[i]? = some t ∧ x2 = V.ref t := by
        rw [List.getElem?_map] at e2
        obtain ⟨t, z1, z2⟩ := Option.map_eq_some_iff.mp e2
        exact ⟨t, z1, z2.symm⟩
      have hc : secs[i]? = some secs[i] := List.getElem?_eq_getElem hic
      have sT := sameNew hT (.tup [V.int ((i : Nat) : Int), V.ref tt])
      have s12 := s1.trans (k2.trans sT)
      have hct := s12 _ _ (a4 i tt _ htt hc)
      have hw := widen_get (ixs := ixs) hc
      refine ⟨T, _, rfl, SqT.of upd_same, rfl, _, _, rfl, _, _, rfl, ⟨tt, _, rfl, SqT.of hct, rfl, _, _, rfl, _, _, rfl, rfl, rfl, rfl, yes_of ?_⟩⟩
      refine ⟨_, rfl, _, rfl, t, _, rfl, .inr (SqT.of (s12 _ _ ht)), rfl, flat_nats ixs, _, rfl, ?_⟩
      show if inV (V.int ((i : Nat) : Int)) (ixs.map fun n => V.int ((n : Nat) : Int)) = true then _ else _
      rw [in_nats]
      have fin : ∀ s' : Sec, (widen secs ixs)[i]? = some s' → ∀ x, (upd H2 T (.tup [V.int ((i : Nat) : Int), V.ref tt])) x = none → ∃ acc, (upd (upd H2 T (.tup [V.int ((i : Nat) : Int), V.ref tt])) x (.tup (secV s'))) D = some (.lst acc) ∧ acc.length < sizeLine ∧ (Same H1 (upd (upd (upd H2 T (.tup [V.int ((i : Nat) : Int), V.ref tt])) x (.tup (secV s'))) D (.lst (acc ++ [.ref x]))) ∧ ∃ us : List Addr, (upd (upd (upd H2 T (.tup [V.int ((i : Nat) : Int), V.ref tt])) x (.tup (secV s'))) D (.lst (acc ++ [.ref x]))) D = some (.lst (us.map V.ref)) ∧ us.length = i + 1 ∧ ∀ (q : Nat) (t : Addr) (s : Sec), us[q]? = some t → (widen secs ixs)[q]? = some s → (upd (upd (upd H2 T (.tup [V.int ((i : Nat) : Int), V.ref tt])) x (.tup (secV s'))) D (.lst (acc ++ [.ref x]))) t = some (.tup (secV s))) := fun s' hs' x hx => by
        have sx := sameNew hx (.tup (secV s'))
        have sTx := sT.trans sx
        have u1' := sTx _ _ u1
        refine ⟨_, u1', by rw [List.length_map, u2]; exact small1000 (by omega), fun b o e => by rw [upd_ne (ne_of_none e hD)]; exact sTx _ _ (k2 _ _ e), us ++ [x], by rw [upd_same, List.map_append]; rfl, by rw [List.length_append, u2]; rfl, fun q t s e1 e2 => ?_⟩
        have key : (upd (upd H2 T (.tup [V.int ((i : Nat) : Int), V.ref tt])) x (.tup (secV s'))) t = some (.tup (secV s)) := by
          rcases snoc_get e1 with e1 | ⟨hq, rfl⟩
          · exact sTx _ _ (u3 q t s e1 e2)
          · rw [u2] at hq
            rw [hq, hs'] at e2
            rw [← Option.some.inj e2]
            exact upd_same
        rw [upd_ne (ne_of key u1' (by intro z; cases z))]
        exact key
      by_cases hm : i ∈ ixs
      · rw [decide_eq_true hm]
        rw [decide_eq_true hm, Bool.true_or] at hw
        refine iteT ⟨_, rfl, by show 2 ≤ sizeLine; decide, fun x hx => ?_⟩
        exact fin _ hw x hx
      · rw [decide_eq_false hm]
        rw [decide_eq_false hm, Bool.false_or] at hw
        refine iteF ⟨_, rfl, _, rfl, by show 2 ≤ sizeLine; decide, fun x hx => ?_⟩
        exact fin _ hw x hx
    · rintro H2 ⟨k2, us, u1, u2, u3⟩
      rw [hts] at u2
      have W := widen_ok S ixs
      have wl := widen_len secs ixs
      refine ⟨rfl, _, rfl, D, us.map V.ref, rfl, .inr (SqL.of u1), fun x dx' hx hdx ne => ?_⟩
      refine ⟨[.ref x], us.map V.ref, rfl, rfl, by rw [List.length_map, u2]; exact Nat.le_of_lt (small1000 (by omega)), fun t' ht' => ?_⟩
      have hxt : x ≠ t' := fun z => by
        rw [← z, upd_same] at ht'
        cases ht'
      have old : ∀ b o, H2 b = some o → (upd (upd (upd H2 dx' (.own x)) x (.ins C dx' [])) t' (.tup (us.map V.ref))) b = some o := fun b o e => by
        have e2 : (upd (upd H2 dx' (.own x)) x (.ins C dx' [])) b = some o := by
          rw [upd_ne (ne_of_none e hx), upd_ne (ne_of_none e hdx)]
          exact e
        rw [upd_ne (ne_of_none e2 ht')]
        exact e2
      refine ⟨x, dx', t', widen secs ixs, rfl, by rw [upd_ne hxt, upd_same], ⟨us, upd_same, by rw [u2, wl], fun i a s e1 e2 => old _ _ (u3 i a s e1 e2)⟩, W, fun H4 uu kp hX huu => ⟨rfl, ?_⟩⟩
      refine k H4 x (fun b o e => ?_) ⟨dx', t', uu, hX, ⟨us, kp _ _ upd_same hxt.symm, by rw [u2, wl], fun i a s e1 e2 => ?_⟩, huu⟩
      · have e2 := k2 _ _ (s1 _ _ e)
        exact kp b o (old _ _ e2) (ne_of_none e2 hx)
      · have q := u3 i a s e1 e2
        exact kp _ _ (old _ _ q) (ne_of_none q hx)
end
end Sl

set_option Elab.async false
set_option linter.all false
set_option maxRecDepth 100000
set_option maxHeartbeats 2000000
namespace Sl
open PySem PySem.Spec L2 OwnR LamX
theorem mk_drive {CR C : Addr} {T : List (Addr × Str)} {H : Hp} {p a dv dx : Addr} {secs : List Sec} {cars : List Car} (rd : RoadAt CR H p secs) (ct : CarsAt H a cars) (SO : SecsOk secs) (CO : CarsOk cars) (hT : Tabs T H) (hdv : H dv = none) (hdx : H dx = none) {Q : VK} {E : XK}
    (k : ∀ H', ExtN H H' → Tabs T H' → DA C H' dv secs cars → Q .non H') : spDInit CR C T [.ref dv, .ref p, .ref a] (upd (upd H dx (.own dv)) dv (.ins C dx [])) Q E := by
  have S2 : Same H (upd (upd H dx (.own dv)) dv (.ins C dx [])) := fun b o e => by rw [upd_ne (ne_of_none e hdv), upd_ne (ne_of_none e hdx)]; exact e
  exact ⟨H, dv, dx, p, a, secs, cars, rfl, upd_same, S2, hdv, rd, ct, SO, CO, hT, fun H' W DW T' => k H' DW.ext T' ⟨_, _, DW⟩⟩
def arrT (secs : List Sec) (cars : List Car) (n : Str) : Int := (plcC secs cars secs.length).tk n
end Sl

set_option Elab.async false
set_option linter.all false
set_option maxRecDepth 100000
set_option maxHeartbeats 2000000
namespace Sl
open PySem PySem.Spec L2 OwnR LamX
theorem bind_star3 {B : List Value → Sem (List (Str × Value))} {p1 p2 p3 pv : Str} (h0 : ∀ a b c, B [a, b, c] = (newTuple [] >>= fun t => pure [(p1, a), (p2, b), (p3, c), (pv, t)])) (h1 : ∀ a b c r rs, B (a :: b :: c :: r :: rs) = (newTuple (r :: rs) >>= fun t => pure [(p1, a), (p2, b), (p3, c), (pv, t)])) :
    ∀ us rest : List Value, us.length = [p1, p2, p3].length → B (us ++ rest) = (newTuple rest >>= fun t => pure ([p1, p2, p3].zip us ++ [(pv, t)]))
  | [a, b, c], [], _ => h0 a b c
  | [a, b, c], r :: rs, _ => h1 a b c r rs
theorem same_unfreeze {H H' : Hp} {d : Addr} {o u : HO} (hd : H d = some u) (s : Same (upd H d o) H') : Same H (upd H' d u) := fun b x e => by
  by_cases h : b = d
  · rw [h] at e ⊢
    rw [upd_same, ← hd, e]
  · rw [upd_ne h]
    exact s b x (by rw [upd_ne h]; exact e)
/-- the first car that loses more -/
def loseL (secs : List Sec) (cars : List Car) (m : Int) (i : Nat) : List Str := ((cars.take i).filter fun c => decide (m < lossOf secs cars c)).map (·.name)
def loser (secs : List Sec) (cars : List Car) (m : Int) : Option Str := (loseL secs cars m cars.length).head?
/-- what the widenings ask -/
structure Inf63 (P : Program) (w : World) (K : PySem.W.Frag) (mg : Str → Option Value) (base : Heap) (CR C : Addr) (T : List (Addr × Str)) : Prop where
  M : Mg mg
  R : DriveT K mg C
  mgr : ∃ t, mg "GREATEST_LOSS" = some (.int 1000000 t)
  init : ∃ f fd, Mk K C f ∧ Binds K fd ["self", "road", "cars"] [] ∧ FnOk P w K mg base CX0 5 f fd ["self", "road", "cars"] (spDInit CR C T)
  call : ∃ f fd ds, StX.CallO K C f ∧ Binds K fd ["self", "name", "place"] ds ∧ Vals [V.non] ds ∧ FnOk P w K mg base CX0 3 f fd ["self", "name", "place"] (spCallD C)
  losses : ∃ f fd, Fm K C "losses" "Drive.losses" sDLosses ["self"] f fd ∧ FnOk P w K mg base CX0 1 f fd ["self"] (spLosses C)
  cars : ∃ f fd, Fb K mg "check_cars" sCheckCars ["cars"] f fd ∧ FnOk P w K mg base CX0 3 f fd ["cars"] spCheckCars
  num : ∃ f fd, Fb K mg "is_number" sIsNumber ["value", "least", "most"] f fd ∧ FnOk P w K mg base CX0 1 f fd ["value", "least", "most"] spIsNumber
  wid : ∃ f, L2.BMeth K CR "widened" f ∧ FnR P w K mg base CX0 5 f (spWid CR)
section
variable {P : Program} {w : World} {K : PySem.W.Frag} {mg : Str → Option Value} {base : Heap}
theorem rf_no (t : Addr) (u : Str) {m : Str} (h1 : ¬ m = "_sections") (h2 : ¬ m = "_units") : (rf t u).lookup m = none := by
  unfold rf
  rw [lookup_putF, if_neg h2, lookup_putF, if_neg h1]
  rfl
/-! ### first_loser -/
def spFL0 (CR : Addr) (T : List (Addr × Str)) : Sp := fun vs H Q _ => ∃ (p a t : Addr) (secs : List Sec) (cars : List Car) (m : Int) (ixs : List Nat), vs = [.ref p, .ref a, .int m, .ref t] ∧ H t = some (.tup (ixs.map fun n => V.int ((n : Nat) : Int))) ∧ RoadAt CR H p secs ∧ CarsAt H a cars ∧ SecsOk secs ∧ CarsOk cars ∧ Tabs T H ∧ 0 ≤ m ∧ m ≤ 1000000 ∧ ixs.length ≤ 1000 ∧ (∀ i ∈ ixs, i < secs.length) ∧
  ∀ H', ExtN H H' → Tabs T H' → Q (strO (loser (widen secs ixs) cars m)) H'
abbrev spFL (CR : Addr) (T : List (Addr × Str)) : Sp := fun vs H Q E => ∃ ws rest, vs = ws ++ rest ∧ ws.length = (["road", "cars", "most"] : List Str).length ∧ rest.length ≤ sizeLine ∧ ∀ p, H p = Option.none → spFL0 CR T (ws ++ [V.ref p]) (upd H p (.tup rest)) Q E
def nFL : List Str := ["road", "cars", "most", "sections", "losses", "losers", "name", "loss"]
theorem scFL : FnScope nFL ["road", "cars", "most", "sections"] (defScope sFirstLoser) := ⟨rfl, rfl, rfl, by decide +kernel, rfl, by decide +kernel, by decide +kernel⟩
theorem ok_loser {f CR C lp kp : Addr} {fd : FuncData} {T : List (Addr × Str)} (F : Fun K "first_loser" "first_loser" sFirstLoser f fd) (I : Inf63 P w K mg base CR C T) (RR : RoadT K w mg CR lp kp) : FnR P w K mg base CX0 7 f (spFL CR T) := by
  obtain ⟨oc, od0, kV0, doc, pm, an, cdv, ct, osl, rfl, lk, hcd⟩ := F.ex
  refine StX.fn_star lk hcd scFL StX.cxUp_none (bind_star3 (p1 := "road") (p2 := "cars") (p3 := "most") (pv := "sections") (B := fun xs => bindArgs (PySem.W.fnOf "first_loser" "first_loser" (defArgs sFirstLoser) (defBody sFirstLoser) (defScope sFirstLoser) .none kV0 doc pm an cdv ct) ⟨xs, []⟩) (fun _ _ _ => rfl) (fun _ _ _ _ _ => rfl)) fun A outer s H vs Q E hr h => ?_
  obtain ⟨p, a, t, secs, cars, m, ixs, rfl, ht, rd, ctt, SO, CO, T0, m0, m1, i1000, hix, k⟩ := h
  have nd := scFL.nd
  have M := I.M
  have R := I.R
  obtain ⟨_, MG⟩ := I.mgr
  obtain ⟨fI, dI, MI, bI, GI⟩ := I.init
  obtain ⟨fC, dC, BC, GC⟩ := I.cars
  obtain ⟨fB, dB, BB, GB⟩ := I.num
  obtain ⟨fL, dL, BL, GL⟩ := I.losses
  obtain ⟨fW, BW, GW⟩ := I.wid
  have hr1 : Room 1 (A.deeper (PyProof.Rows.envOfC "first_loser" (defScope sFirstLoser) s.heap.objs.size f cdv)) := hr.mono (by decide)
  have hr3 : Room 3 (A.deeper (PyProof.Rows.envOfC "first_loser" (defScope sFirstLoser) s.heap.objs.size f cdv)) := hr.mono (by decide)
  have hr5 : Room 5 (A.deeper (PyProof.Rows.envOfC "first_loser" (defScope sFirstLoser) s.heap.objs.size f cdv)) := hr.mono (by decide)
  refine ⟨_, PSs.nox (pss_cons (ps_expr (pe_call GC hr3 (by rfl) BC.at_ BC.fn.kp BC.bd .nil pass0 (pa_cons (pv 1) pa_nil))) (pss_cons (ps_if (pt_not (pt_val (pe_call GB hr1 (by rfl) BB.at_ BB.fn.kp BB.bd .nil pass0 (pa_cons (pv 2) (pa_cons pe_int (pa_cons (pe_glob (v := .int 1000000) (by rfl) MG ⟨_, rfl⟩) pa_nil)))))) (pss_one ps_never) pss_nil) (pss_cons (ps_set (i := 4) nd rfl (.inl rfl) (pe_meth0 (pe_make MI GI hr (by rfl) R.mgC bI .nil pass0 (pa_cons (pe_methS (pv 0) RR.cl BW GW hr5 pass0 (pv 3)) (pa_cons (pv 1) pa_nil))) R.cl BL.at_ GL hr1 BL.bd .nil pass0)) (pss_cons (ps_lock (ps_setLc (i := 5) (own := [("name", 6), ("loss", 7)]) (g := gTup K 2 (gCons (gName 6) (gCons (gName 7) gNil))) (tt := tTest (tOp (rI0 fun i j => .bl (decide (j < i))) (tVar 7) (tVar 2))) (te := tVar 6) (by rfl) nd rfl rfl (sw_true rfl rfl rfl (by decide +kernel)) (pi_items (pv 4)) (blkOk_by (N := nFL) (sc := defScope sFirstLoser) (by decide +kernel)) (fun _ _ _ _ _ => pg_tup rfl (pgs_cons (pg_name (i := 6) nd rfl (Or.inl rfl)) (pgs_cons (pg_name (i := 7) nd rfl (Or.inl rfl)) pgs_nil))) (fun _ _ _ _ _ => pts_one (pt_cmpR op_gt (pv 7) (pv 2) (nomark _))) (fun _ _ _ _ _ => pv 6))) (pss_one (ps_ret (pe_ifExp (pt_truth (pv 5) (by intro _; rfl)) (pe_ix ix_list (pv 5) pe_int (fun _ _ => rfl)) pe_non))))))), ?_⟩
  have few := CO.few
  have h12 := SO.few
  have noF : ∀ {W : DW} {m : Str}, (¬ m = "_sections") → (¬ m = "_paces") → (¬ m = "_ticks") → (¬ m = "_orders") → (¬ m = "_leaders") → (df5 W.sc W.pd W.lt W.lo W.ll).lookup m = none := fun a b c d e => df5_no _ _ _ _ _ a b c d e
  refine ⟨_, rfl, a, cars, rfl, ctt, CO, fun H1 s1 => ?_⟩
  refine ⟨_, rfl, m, 0, 1000000, rfl, true, by rw [decide_eq_true m0, decide_eq_true m1]; rfl, iteF ?_⟩
  have ht1 := s1 _ _ ht
  have rd1 := rd.ext2 (ExtN.same s1)
  have ct1 := ctt.ext (ExtN.same s1)
  have T1 := T0.ext s1
  have e1 := ExtN.same s1
  clear ht rd ctt T0 s1
  obtain ⟨rdx, rts, ru, r1, r2, r3⟩ := id rd1
  refine ⟨_, rfl, p, rdx, _, rfl, r1, rf_no _ _ (by decide +kernel) (by decide +kernel), fun q hq => ⟨_, rfl, t, ixs.map fun n => V.int ((n : Nat) : Int), rfl, ?_, upd_same, ?_⟩⟩
  · exact SqT.of (sameNew hq (.met _ _) _ _ ht1)
  refine ⟨[.ref p], _, rfl, rfl, by rw [List.length_map]; exact Nat.le_of_lt (small1000 i1000), fun t2 ht2 => ?_⟩
  have sm := (sameNew hq (.met fW p)).trans (sameNew ht2 (.tup (ixs.map fun n => V.int ((n : Nat) : Int))))
  refine ⟨p, t2, secs, ixs, rfl, upd_same, rd1.ext2 (ExtN.same sm), SO, i1000, hix, fun H7 q2 s7 rd7 => ?_⟩
  have s17 := sm.trans s7
  have hW := widen_ok SO ixs
  have hWl := widen_len secs ixs
  generalize widen secs ixs = wsec at *
  refine ⟨_, rfl, fun dw dy hdw hdy ndy => mk_drive rd7 (ct1.ext (ExtN.same s17)) hW CO (T1.ext s17) hdw hdy fun H8 e8 T8 da8 => ⟨rfl, ?_⟩⟩
  have e08 := e1.trans ((ExtN.same s17).trans e8)
  clear rd7 s7 sm ht2 hq rd1 ct1 T1 ht1 r1 r2 r3 s17 e1 e8
  obtain ⟨_, W8, D8⟩ := id da8
  refine ⟨dw, W8.dx, _, rfl, D8.ins, noF (by decide +kernel) (by decide +kernel) (by decide +kernel) (by decide +kernel) (by decide +kernel), dw, wsec, cars, rfl, da8, CO, by omega, fun H9 d s9 hd8 hd => ?_⟩
  have e09 := e08.trans (ExtN.same s9)
  have T9 := T8.ext s9
  clear da8 D8 W8 s9 hd8 T8 e08
  -- losers
  refine ⟨d, _, hd, True.intro, fun od => ?_⟩
  have eln : (lossK wsec cars).length = cars.length := by unfold lossK; rw [List.length_map]
  have hz : upd H9 d (.frz od (.dK (lossK wsec cars))) d = some (.frz od (.dK (lossK wsec cars))) := upd_same
  have hund : ∀ H', Same (upd H9 d (.frz od (.dK (lossK wsec cars)))) H' → Same H9 (upd H' d (.dK (lossK wsec cars))) := fun H' s => same_unfreeze hd s
  generalize upd H9 d (.frz od (.dK (lossK wsec cars))) = Hz at hz hund ⊢
  refine ⟨_, rfl, d, od, _, rfl, hz, fun D hD => ?_⟩
  refine lc_it walk_items (fun i H3 => Same Hz H3 ∧ H3 D = some (.lst ((loseL wsec cars m i).map V.str)))
    ⟨sameNew hD _, upd_same⟩ (fun i H3 _ ⟨q, _⟩ => q _ _ hz) ?_ ?_
  · rintro i y H3 H4 hi ⟨k3, d3⟩ ⟨T', x1, x2, rfl, hT, rfl, e1, e2⟩
    have hic : i < cars.length := by rw [eln] at hi; exact hi
    have hc : cars[i]? = some cars[i] := List.getElem?_eq_getElem hic
    have hk : (lossK wsec cars)[i]? = some (Sum.inr cars[i].name, V.int (lossOf wsec cars cars[i])) := by unfold lossK; rw [List.getElem?_map, hc]; rfl
    have e1 : ((lossK wsec cars)[i]?).map (fun kv => kV kv.1) = some x1 := e1
    have e2 : ((lossK wsec cars)[i]?).map Prod.snd = some x2 := e2
    rw [hk] at e1 e2
    have e1' : x1 = V.str cars[i].name := (Option.some.inj e1).symm
    have e2' : x2 = V.int (lossOf wsec cars cars[i]) := (Option.some.inj e2).symm
    subst e1' e2'
    have sT := k3.trans (sameNew hT (.tup [.str cars[i].name, .int (lossOf wsec cars cars[i])]))
    have d4 := sameNew hT (.tup [.str cars[i].name, .int (lossOf wsec cars cars[i])]) _ _ d3
    refine ⟨T', _, rfl, SqT.of upd_same, rfl, _, _, rfl, _, _, rfl, rfl, rfl, ?_⟩
    generalize upd H3 T' (.tup [.str cars[i].name, .int (lossOf wsec cars cars[i])]) = H5 at sT d4 ⊢
    refine ⟨_, rfl, _, rfl, _, _, rfl, rfl, _, rfl, ?_⟩
    have hs : loseL wsec cars m (i + 1) = loseL wsec cars m i ++ if m < lossOf wsec cars cars[i] then [cars[i].name] else [] := by
      unfold loseL
      rw [tk1 hc, List.filter_append, List.map_append]
      by_cases h : m < lossOf wsec cars cars[i] <;> simp [h]
    have hll : (loseL wsec cars m i).length ≤ 10 := by
      unfold loseL
      rw [List.length_map]
      refine Nat.le_trans (List.length_filter_le _ _) ?_
      rw [List.length_take]
      omega
    rw [hs]
    by_cases h : m < lossOf wsec cars cars[i]
    · rw [decide_eq_true h, if_pos h]
      refine iteT ⟨_, rfl, _, d4, small1000 (by rw [List.length_map]; omega), fun b o e => by rw [upd_ne (ne_of_none e hD)]; exact sT _ _ e, ?_⟩
      rw [upd_same, List.map_append]
      rfl
    · rw [decide_eq_false h, if_neg h, List.append_nil]
      exact iteF ⟨sT, d4⟩
  rintro H3 ⟨k3, d3⟩
  rw [eln] at d3
  refine ⟨k3 _ _ hz, ?_⟩
  have s10 := hund _ k3
  have e10 := e09.trans (ExtN.same s10)
  have T10 := T9.ext s10
  have d10 : upd H3 d (.dK (lossK wsec cars)) D = some (.lst ((loseL wsec cars m cars.length).map V.str)) := by
    rw [upd_ne (ne_of d3 (k3 _ _ hz) (by intro z; cases z))]
    exact d3
  generalize upd H3 d (.dK (lossK wsec cars)) = H10 at e10 T10 d10 ⊢
  have kf := k H10 e10 T10
  refine ⟨_, rfl, _, .inl ⟨_, SqL.of d10, rfl⟩, ?_⟩
  unfold loser at kf
  cases hL : loseL wsec cars m cars.length with
  | nil =>
    rw [hL] at kf
    exact iteF kf
  | cons x r =>
    rw [hL] at kf d10
    refine iteT ⟨_, rfl, D, _, ((0 : Nat) : Int), .str x, rfl, rfl, SqL.of d10, atI_nat rfl, kf⟩
end
end Sl

set_option Elab.async false
set_option linter.all false
set_option maxRecDepth 100000
set_option maxHeartbeats 2000000
namespace Sl
open PySem PySem.Spec L2 OwnR LamX
/-- the narrow sections -/
def isNar (secs : List Sec) (i : Nat) : Bool := (secs[i]?.map fun s => !s.1).getD false
def narL (secs : List Sec) (n : Nat) : List Nat := (List.range n).filter (isNar secs)
theorem narL_succ (secs : List Sec) (n : Nat) : narL secs (n + 1) = narL secs n ++ if isNar secs n = true then [n] else [] := by
  unfold narL
  rw [List.range_succ, List.filter_append]
  cases h : isNar secs n <;> simp [h]
theorem narL_len (secs : List Sec) (n : Nat) : (narL secs n).length ≤ n := by
  have := List.length_filter_le (isNar secs) (List.range n)
  rw [List.length_range] at this
  exact this
theorem narL_lt {secs : List Sec} {n i : Nat} (h : i ∈ narL secs n) : i < n := List.mem_range.mp (List.mem_filter.mp h).1
theorem narL_up (secs : List Sec) (n : Nat) : (narL secs n).Pairwise (· < ·) := List.Pairwise.filter _ List.pairwise_lt_range
/-- longer choices -/
def extN (nar c : List Nat) : List (List Nat) := (nar.filter fun s => c.isEmpty || decide (c.getLastD 0 < s)).map fun s => c ++ [s]
def chs (nar : List Nat) : Nat → List (List Nat)
  | 0 => [[]]
  | k + 1 => (chs nar k).flatMap (extN nar)
theorem chs_in (nar : List Nat) : ∀ k, ∀ c ∈ chs nar k, (∀ x ∈ c, x ∈ nar) ∧ c.length = k
  | 0 => fun c hc => by
    rw [List.mem_singleton.mp hc]
    exact ⟨fun x hx => (nomatch hx), rfl⟩
  | k + 1 => fun c hc => by
    obtain ⟨d, hd, h⟩ := List.mem_flatMap.mp hc
    obtain ⟨v, hv, rfl⟩ := List.mem_map.mp h
    obtain ⟨h1, h2⟩ := chs_in nar k d hd
    refine ⟨fun x hx => ?_, by rw [List.length_append, h2]; rfl⟩
    rcases List.mem_append.mp hx with hx | hx
    · exact h1 x hx
    · rw [List.mem_singleton.mp hx]
      exact (List.mem_filter.mp hv).1
theorem extN_len (nar c : List Nat) : (extN nar c).length ≤ nar.length := by
  unfold extN
  rw [List.length_map]
  exact List.length_filter_le _ _
theorem flat_len (nar : List Nat) : ∀ l : List (List Nat), (l.flatMap (extN nar)).length ≤ l.length * nar.length
  | [] => Nat.zero_le _
  | c :: r => by
    have h1 := extN_len nar c
    have h2 := flat_len nar r
    show (extN nar c ++ r.flatMap (extN nar)).length ≤ _
    rw [List.length_append, List.length_cons, Nat.add_mul, Nat.one_mul]
    omega
theorem chs_len (nar : List Nat) (h7 : nar.length ≤ 7) : ∀ k, (chs nar k).length ≤ 7 ^ k
  | 0 => Nat.le_refl _
  | k + 1 => by
    have h1 := flat_len nar (chs nar k)
    have h2 := chs_len nar h7 k
    show ((chs nar k).flatMap (extN nar)).length ≤ _
    rw [Nat.pow_succ]
    exact Nat.le_trans h1 (Nat.mul_le_mul h2 h7)
theorem chs_take {nar : List Nat} (up : nar.Pairwise (· < ·)) : ∀ k, k ≤ nar.length → nar.take k ∈ chs nar k
  | 0, _ => List.mem_singleton.mpr rfl
  | k + 1, h => by
    have ih := chs_take up k (by omega)
    refine List.mem_flatMap.mpr ⟨_, ih, ?_⟩
    obtain ⟨v, hv⟩ : ∃ v, nar[k]? = some v := ⟨_, List.getElem?_eq_getElem h⟩
    refine List.mem_map.mpr ⟨v, List.mem_filter.mpr ⟨List.mem_of_getElem? hv, ?_⟩, (tk1 hv).symm⟩
    cases k with
    | zero => simp
    | succ j =>
      obtain ⟨u, hu⟩ : ∃ u, nar[j]? = some u := ⟨_, List.getElem?_eq_getElem (by omega)⟩
      have : (nar.take (j + 1)).getLastD 0 = u := by rw [tk1 hu]; simp
      rw [this]
      have hlt : u < v := by
        rw [List.pairwise_iff_getElem] at up
        obtain ⟨h1, e1⟩ := List.getElem?_eq_some_iff.mp hu
        obtain ⟨h2, e2⟩ := List.getElem?_eq_some_iff.mp hv
        have := up j (j + 1) h1 h2 (by omega)
        rw [e1, e2] at this
        exact this
      rw [decide_eq_true hlt, Bool.or_true]
theorem chs_all {nar : List Nat} (up : nar.Pairwise (· < ·)) : nar ∈ chs nar nar.length := by
  have := chs_take up nar.length (Nat.le_refl _)
  rwa [List.take_length] at this
/-! ### on a road all wide no car loses -/
theorem wide_tk (pace : Str → Int) (n : Str) : ∀ (l : List Sec) (p : Pl Str), (∀ s ∈ l, s.1 = true) → (l.foldl (stepP pace) p).tk n = p.tk n + pace n * (((l.map (·.2)).sum : Nat) : Int)
  | [], p, _ => by simp
  | s :: r, p, h => by
    show (r.foldl (stepP pace) (stepP pace p s)).tk n = _
    rw [wide_tk pace n r _ fun x hx => h x (List.mem_cons_of_mem _ hx)]
    have hs := h s List.mem_cons_self
    have e : (stepP pace p s).tk n = p.tk n + pace n * (s.2 : Int) := by
      unfold stepP
      rw [if_pos hs]
      rfl
    rw [e, List.map_cons, List.sum_cons, Int.natCast_add, Int.mul_add]
    omega
theorem wide_loss {secs : List Sec} {cars : List Car} (nd : (names cars).Nodup) (h : ∀ s ∈ secs, s.1 = true) {c : Car} (hc : c ∈ cars) : lossOf secs cars c = 0 := by
  have e := wide_tk (paceOf cars) c.name secs (pl0 cars) h
  unfold lossOf
  have e2 : (plcC secs cars secs.length).tk c.name = (pl0 cars).tk c.name + paceOf cars c.name * (((secs.map (·.2)).sum : Nat) : Int) := by
    rw [← e]
    show (List.foldl (stepP (paceOf cars)) (pl0 cars) (secs.take secs.length)).tk c.name = _
    rw [List.take_length]
  rw [e2, paceOf_car nd hc]
  show startOf cars c.name + c.pace * ((unitsN secs : Nat) : Int) - startOf cars c.name - c.pace * ((unitsN secs : Nat) : Int) = 0
  omega
theorem widen_nar {secs : List Sec} : ∀ s ∈ widen secs (narL secs secs.length), s.1 = true := fun s hs => by
  obtain ⟨i, hi⟩ := List.mem_iff_getElem?.mp hs
  have hil : i < secs.length := by
    have := (List.getElem?_eq_some_iff.mp hi).1
    rwa [widen_len] at this
  have hg : secs[i]? = some secs[i] := List.getElem?_eq_getElem hil
  rw [widen_get hg] at hi
  rw [← Option.some.inj hi]
  show (decide (i ∈ narL secs secs.length) || secs[i].1) = true
  cases q : secs[i].1 with
  | true => rw [Bool.or_true]
  | false =>
    rw [Bool.or_false]
    refine decide_eq_true (List.mem_filter.mpr ⟨List.mem_range.mpr hil, ?_⟩)
    unfold isNar
    rw [hg]
    simp [q]
theorem loser_nar {secs : List Sec} {cars : List Car} (nd : (names cars).Nodup) {m : Int} (m0 : 0 ≤ m) : loser (widen secs (narL secs secs.length)) cars m = none := by
  unfold loser loseL
  have : (cars.take cars.length).filter (fun c => decide (m < lossOf (widen secs (narL secs secs.length)) cars c)) = [] := by
    rw [List.take_length]
    refine List.filter_eq_nil_iff.mpr fun c hc => ?_
    rw [wide_loss nd widen_nar hc]
    simp
    omega
  rw [this]
  rfl
/-- a walk, whatever is done at each step -/
theorem walk_w {J : It} {n : Nat} {G : Hp → Prop} {Y : Nat → Hp → V → Hp → Prop} (w : Walk J n G Y) {St : V → Hp → (Hp → Prop) → Prop} {H0 : Hp} {Qd : Hp → Prop} (Pv : Nat → Hp → Prop) (h0 : Pv 0 H0) (hG : ∀ i H, i ≤ n → Pv i H → G H)
    (hs : ∀ i x H H', i < n → Pv i H → Y i H x H' → St x H' (Pv (i + 1))) (hd : ∀ H, Pv n H → Qd H) :
    ∃ W : Nat → Nat → Hp → Prop, (∃ m, W 0 m H0) ∧ ∀ i m H, W i m H → (J.stop i H ∧ Qd H) ∨ (J.go i H ∧ ∃ Nx : Hp → Prop, (∀ H', Nx H' → ∃ m', m' < m ∧ W (i + 1) m' H') ∧ ∀ x H', J.yld i H x H' → St x H' Nx) := by
  refine ⟨fun i m H => m = n - i ∧ i ≤ n ∧ Pv i H, ⟨n, by simp, Nat.zero_le _, h0⟩, ?_⟩
  rintro i m H ⟨rfl, hi, p⟩
  have q := hG i H hi p
  by_cases hlt : i < n
  · refine .inr ⟨w.goes i H hlt q, Pv (i + 1), fun H' p' => ⟨n - (i + 1), by omega, rfl, hlt, p'⟩, fun x H' y => hs i x H H' hlt p (w.yields i H x H' hlt q y)⟩
  · have e : i = n := by omega
    subst e
    exact .inl ⟨w.stops H q, hd H p⟩
end Sl

set_option Elab.async false
set_option linter.all false
set_option maxRecDepth 100000
set_option maxHeartbeats 2000000
namespace Sl
open PySem PySem.Spec L2 OwnR LamX
section
variable {P : Program} {w : World} {K : PySem.W.Frag} {mg : Str → Option Value} {base : Heap}
/-! ### fewest_widened -/
/-- the choice: the first of the fewest -/
def FewW (secs : List Sec) (cars : List Car) (m : Int) (c : List Nat) : Prop := ∃ k pre post, chs (narL secs secs.length) k = pre ++ c :: post ∧ loser (widen secs c) cars m = none ∧ (∀ d ∈ pre, loser (widen secs d) cars m ≠ none) ∧ ∀ j, j < k → ∀ d ∈ chs (narL secs secs.length) j, loser (widen secs d) cars m ≠ none
theorem take_mid {α : Type} {l : List α} {i : Nat} {c : α} (h : l[i]? = some c) : l = l.take i ++ c :: l.drop (i + 1) := by
  have h2 := List.take_append_drop (i + 1) l
  rw [tk1 h, List.append_assoc] at h2
  exact h2.symm
theorem lastD_snoc (a : List Nat) (x : Nat) : (a ++ [x]).getLastD 0 = x := by simp
def natV (c : List Nat) : List V := c.map fun n => V.int ((n : Nat) : Int)
/-- not there before, but for a mark -/
def NewL (H : Hp) (t : Addr) : Prop := ∀ o, H t = some o → ∃ x, o = .tbl x
theorem newL_of {H H' : Hp} {t : Addr} (e : ExtN H H') (h : H' t = none) : NewL H t := fun o ho => by
  by_cases q : ∃ x, o = .tbl x
  · exact q
  · have := e _ _ ho fun x z => q ⟨x, z⟩
    rw [h] at this
    cases this
/-- a list of choices -/
def CAt (H0 H : Hp) (l : Addr) (xs : List (List Nat)) : Prop := ∃ ts : List Addr, H l = some (.lst (ts.map V.ref)) ∧ ts.length = xs.length ∧ ∀ (i : Nat) (t : Addr) (c : List Nat), ts[i]? = some t → xs[i]? = some c → (t ≠ l ∧ NewL H0 t) ∧ H t = some (.lst (natV c))
theorem CAt.ext {H0 H H' : Hp} {l : Addr} {xs : List (List Nat)} (h : CAt H0 H l xs) (e : ExtN H H') : CAt H0 H' l xs := by
  obtain ⟨ts, h1, h2, h3⟩ := h
  exact ⟨ts, ExtN.lst e h1, h2, fun i t c e1 e2 => ⟨(h3 i t c e1 e2).1, ExtN.lst e (h3 i t c e1 e2).2⟩⟩
theorem CAt.push {H0 H : Hp} {l t : Addr} {xs : List (List Nat)} {ts : List Addr} (h1 : H l = some (.lst (ts.map V.ref))) (h2 : ts.length = xs.length) (h3 : ∀ (i : Nat) (t : Addr) (c : List Nat), ts[i]? = some t → xs[i]? = some c → (t ≠ l ∧ NewL H0 t) ∧ H t = some (.lst (natV c))) {c : List Nat} (n : t ≠ l ∧ NewL H0 t) (ht : H t = some (.lst (natV c))) :
    CAt H0 (upd H l (.lst (ts.map V.ref ++ [V.ref t]))) l (xs ++ [c]) := by
  refine ⟨ts ++ [t], by rw [upd_same, List.map_append]; rfl, by rw [List.length_append, List.length_append, h2]; rfl, fun i b e e1 e2 => ?_⟩
  have key : (b ≠ l ∧ NewL H0 b) ∧ H b = some (.lst (natV e)) := by
    rcases snoc_get e1 with e1 | ⟨hq, rfl⟩
    · have := (List.getElem?_eq_some_iff.mp e1).1
      rw [List.getElem?_append_left (by omega)] at e2
      exact h3 i b e e1 e2
    · rw [List.getElem?_append_right (by omega), hq, h2, Nat.sub_self] at e2
      have : c = e := by simpa using e2
      rw [← this]
      exact ⟨n, ht⟩
  exact ⟨key.1, by rw [upd_ne key.1.1]; exact key.2⟩
theorem natV_len (c : List Nat) : (natV c).length = c.length := List.length_map _
theorem natV_app (c d : List Nat) : natV (c ++ d) = natV c ++ natV d := List.map_append
def spFew (CR : Addr) (T : List (Addr × Str)) : Sp := fun vs H Q _ => ∃ (p a : Addr) (secs : List Sec) (cars : List Car) (m : Int), vs = [.ref p, .ref a, .int m] ∧ RoadAt CR H p secs ∧ CarsAt H a cars ∧ SecsOk secs ∧ CarsOk cars ∧ Tabs T H ∧ 0 ≤ m ∧ m ≤ 1000000 ∧ secs.length ≤ 7 ∧
  ∀ H' l c, ExtN H H' → Tabs T H' → H' l = some (.lst (natV c)) → NewL H l ∧ c.length ≤ 7 → FewW secs cars m c → Q (.ref l) H'
def nFW : List Str := ["road", "cars", "most", "narrow", "choices", "chosen", "at", "kind", "length", "section"]
theorem scFW : FnScope nFW ["road", "cars", "most"] (defScope sFewestWidened) := ⟨rfl, rfl, rfl, by decide +kernel, rfl, by decide +kernel, by decide +kernel⟩
theorem ok_few {f fL CR pp fP lp kp : Addr} {fd dP dL : FuncData} {T : List (Addr × Str)} (F : Fun K "fewest_widened" "fewest_widened" sFewestWidened f fd) (M : Mg mg) (RR : RoadT K w mg CR lp kp)
    (PO : PropOf K CR "sections" pp fP) (bP : Binds K dP ["self"] []) (GP : FnOk P w K mg base CX0 1 fP dP ["self"] (getSp CR "_sections"))
    (aL : mg "first_loser" = some (.ref fL)) (FL : Fun K "first_loser" "first_loser" sFirstLoser fL dL) (GL : FnR P w K mg base CX0 7 fL (spFL CR T)) :
    FnOk P w K mg base CX0 8 f fd ["road", "cars", "most"] (spFew CR T) := by
  refine F.ok scFW (fun vs H Q E h => ?_) (fun cdv A outer s H vs Q E hr h => ?_)
  · obtain ⟨p, a, secs, cars, m, rfl, _⟩ := h
    rfl
  · obtain ⟨p, a, secs, cars, m, rfl, rd, ct, SO, CO, T0, m0, m1, h7, k⟩ := h
    have nd := scFW.nd
    have hr2 : Room 2 (A.deeper (PyProof.Rows.envOfC "fewest_widened" (defScope sFewestWidened) s.heap.objs.size f cdv)) := hr.mono (by decide)
    have hr7 : Room 7 (A.deeper (PyProof.Rows.envOfC "fewest_widened" (defScope sFewestWidened) s.heap.objs.size f cdv)) := hr.mono (by decide)
    refine ⟨_, (pss_cons (ps_set (i := 3) nd rfl (.inr rfl) (pe_lc (own := [("at", 6), ("kind", 7), ("length", 8)]) (g := gTup K 2 (gCons (gName 6) (gCons (gTup K 2 (gCons (gName 7) (gCons (gName 8) gNil))) gNil))) (tt := tTest (tOp rEq (tVar 7) (tC (.str "narrow")))) (te := tVar 6) (by rfl) nd (pi_enumT (by rfl) M.enumerate (pa_cons (pe_prop (pv 0) RR.cl PO GP hr2 bP .nil pass0 rfl) pa_nil)) (blkOk_by (N := nFW) (sc := defScope sFewestWidened) (by decide +kernel)) (fun _ _ _ _ _ => pg_tup rfl (pgs_cons (pg_name (i := 6) nd rfl (.inl rfl)) (pgs_cons (pg_tup rfl (pgs_cons (pg_name (i := 7) nd rfl (.inl rfl)) (pgs_cons (pg_name (i := 8) nd rfl (.inl rfl)) pgs_nil))) pgs_nil))) (fun _ _ _ _ _ => pts_one (pt_cmpR op_eq (pv 7) pe_str (nomark _))) (fun _ _ _ _ _ => pv 6))) (pss_cons (ps_set (i := 4) nd rfl (.inl rfl) (pe_lst (pa_cons (pe_lst pa_nil) pa_nil))) (pss_one (ps_while PassesOwn.never (pt_val pe_bl) (pss_cons (ps_for PassesOwn.never rfl (pi_list (pv 4)) (pg_name (i := 5) nd rfl (.inl rfl)) (pss_one (ps_if (pt_cmp (pc_isN (StX.pe_callS2 GL hr7 FL.kp (by rfl) aL pass0 (pa_cons (pv 0) (pa_cons (pv 1) (pa_cons (pv 2) (StX.pa_star (pv 5) pa_nil))))))) (pss_one (ps_ret (pv 5))) pss_nil))) (pss_one (ps_setLc2 (i := 4) (own := [("chosen", 5), ("section", 9)]) (vs1 := [9]) (g := gName 5) (tt := tYes) (g1 := gName 9) (tt1 := tOr (tNot (fun σ H Q => tVar 5 σ H fun x H' => ∃ k, TruV K x H' k ∧ Q k H')) (tTest (tOp (rI0 fun i j => .bl (decide (i < j))) (tOp (rIxL K) (tVar 5) (tUn (rU fun i => .int (-i)) (tC (.int 1)))) (tVar 9)))) (te := tOp rCat (tVar 5) (tLst (tCons (tVar 9) tNil))) (wi1 := iList K (tVar 3)) (by rfl) nd rfl rfl (sw_true rfl rfl rfl (by decide +kernel)) (pi_list (pv 4)) (blkOk_by (N := nFW) (sc := defScope sFewestWidened) (by decide +kernel)) (by decide) (fun _ _ _ _ _ => (pg_name (i := 5) nd rfl (.inl rfl))) (fun _ _ _ _ _ => pts_nil) (fun _ _ _ _ _ => (pi_list (pv 3))) (fun _ _ _ _ _ => (pg_name (i := 9) nd rfl (.inl rfl))) (fun _ _ _ _ _ => pts_one (PW.pt (pw_or (pt_not (pt_truth (pv 5) (by intro _; rfl))) (pw_or1 (pt_cmpR op_lt (pe_ix ix_list (pv 5) (pe_un un_neg pe_int) (fun _ _ => rfl)) (pv 9) (nomark _)))))) (fun _ _ _ _ _ => (pe_op op_cat (pv 5) (pe_lst (pa_cons (pv 9) pa_nil))))))))))), ?_⟩
    have h10 := CO.few
    obtain ⟨rdx, rts, ru, r1, r2, r3⟩ := id rd
    obtain ⟨us, r4, r5, r6⟩ := id r2
    have hus : (us.map V.ref).length = secs.length := by rw [List.length_map, r5]
    refine ⟨_, rfl, p, rdx, _, rfl, r1, p, rdx, _, _, rfl, r1, rf_sections _ _, rts, _, rfl, SqT.of r4, fun D hD => ?_⟩
    refine lc_it walk_enumT (fun i H2 => Same H H2 ∧ H2 D = some (.lst (natV (narL secs i))))
      ⟨sameNew hD _, upd_same⟩ (fun i H2 _ ⟨k2, _⟩ => SqT.of (k2 _ _ r4)) ?_ ?_
    · rintro i y H2 H3 hi ⟨k2, u1⟩ ⟨T', x1, x2, rfl, hT, rfl, e1, e2⟩
      cases e1
      rw [hus] at hi
      have e2 : (us.map V.ref)[i]? = some x2 := e2
      obtain ⟨tt, htt, rfl⟩ : ∃ t, us[i]? = some t ∧ x2 = V.ref t := by
        rw [List.getElem?_map] at e2
        obtain ⟨t, z1, z2⟩ := Option.map_eq_some_iff.mp e2
        exact ⟨t, z1, z2.symm⟩
      have hc : secs[i]? = some secs[i] := List.getElem?_eq_getElem hi
      have sT := k2.trans (sameNew hT (.tup [V.int ((i : Nat) : Int), V.ref tt]))
      have u2 := sameNew hT (.tup [V.int ((i : Nat) : Int), V.ref tt]) _ _ u1
      have hct := sT _ _ (r6 i tt _ htt hc)
      have hnl := narL_len secs i
      have hn : isNar secs i = !secs[i].1 := by unfold isNar; rw [hc]; rfl
      refine ⟨T', _, rfl, SqT.of upd_same, rfl, _, _, rfl, _, _, rfl, ⟨tt, _, rfl, SqT.of hct, rfl, _, _, rfl, _, _, rfl, rfl, rfl, rfl, ?_⟩⟩
      generalize upd H2 T' (.tup [V.int ((i : Nat) : Int), V.ref tt]) = H4 at sT u2 ⊢
      refine ⟨_, rfl, rfl, _, rfl, ?_⟩
      rw [show decide (V.str (kindS secs[i].1) = V.str "narrow") = isNar secs i by rw [hn]; cases secs[i].1 <;> rfl, narL_succ]
      cases hq : isNar secs i with
      | true =>
        refine iteT ⟨_, rfl, _, u2, small1000 (by rw [natV_len]; omega), fun b o e => by rw [upd_ne (ne_of_none e hD)]; exact sT _ _ e, ?_⟩
        rw [upd_same, if_pos rfl, natV_app]
        rfl
      | false =>
        refine iteF ⟨sT, ?_⟩
        rw [if_neg (by decide), List.append_nil]
        exact u2
    rintro H1 ⟨s1, hD1⟩
    rw [hus] at hD1
    clear hus r4 r5 r6 r1 r2 r3 hD us
    have hup := narL_up secs secs.length
    have hnl := narL_len secs secs.length
    have hlt : ∀ x ∈ narL secs secs.length, x < secs.length := fun x hx => narL_lt hx
    have hgood := loser_nar (secs := secs) CO.nd m0
    have hin := chs_in (narL secs secs.length)
    have hcl := chs_len (narL secs secs.length) (by omega)
    have hfl := flat_len (narL secs secs.length)
    have hall := chs_all hup
    unfold FewW at k
    generalize narL secs secs.length = nar at *
    refine ⟨Nat.zero_le _, fun q0 hq0 => ⟨by show 1 ≤ sizeLine; decide, fun q1 hq1 => ?_⟩⟩
    have s3 := s1.trans ((sameNew hq0 (.lst [])).trans (sameNew hq1 (.lst [V.ref q0])))
    have hD3 := sameNew hq1 (.lst [V.ref q0]) _ _ (sameNew hq0 (.lst []) _ _ hD1)
    have C3 : CAt H (upd (upd H1 q0 (.lst [])) q1 (.lst [V.ref q0])) q1 (chs nar 0) := by
      have n01 : q0 ≠ q1 := fun z => by rw [← z, upd_same] at hq1; cases hq1
      refine ⟨[q0], upd_same, rfl, fun i t d e1 e2 => ?_⟩
      match i, e1, e2 with
      | 0, e1, e2 =>
        cases Option.some.inj e1
        cases Option.some.inj e2
        exact ⟨⟨n01, fun o e => by rw [s1 _ _ e] at hq0; cases hq0⟩, sameNew hq1 _ _ _ upd_same⟩
    generalize upd (upd H1 q0 (.lst [])) q1 (.lst [V.ref q0]) = H3 at s3 hD3 C3 ⊢
    clear hq0 hq1 hD1 s1
    refine ⟨fun n σ H' => ∃ (kx : Nat) (l : Addr) (v5 : Option V), n = nar.length - kx ∧ kx ≤ nar.length ∧ σ = [some (.ref p), some (.ref a), some (.int m), some (.ref D), some (.ref l), v5, none, none, none, none] ∧ ExtN H H' ∧ Tabs T H' ∧ H' D = some (.lst (natV nar)) ∧ CAt H H' l (chs nar kx) ∧ ∀ j, j < kx → ∀ d ∈ chs nar j, loser (widen secs d) cars m ≠ none,
      ⟨_, 0, q1, none, rfl, Nat.zero_le _, rfl, ExtN.same s3, T0.ext s3, hD3, C3, fun j hj => absurd hj (by omega)⟩, ?_⟩
    clear s3 hD3 C3 H3
    rintro n σ H4 ⟨kx, l, v5, rfl, hkx, rfl, e4, T4, hD4, C4, hno⟩
    refine ⟨true, rfl, iteT ⟨fun σ' H' => ∃ n', n' < nar.length - kx ∧ ∃ (kx : Nat) (l : Addr) (v5 : Option V), n' = nar.length - kx ∧ kx ≤ nar.length ∧ σ' = [some (.ref p), some (.ref a), some (.int m), some (.ref D), some (.ref l), v5, none, none, none, none] ∧ ExtN H H' ∧ Tabs T H' ∧ H' D = some (.lst (natV nar)) ∧ CAt H H' l (chs nar kx) ∧ ∀ j, j < kx → ∀ d ∈ chs nar j, loser (widen secs d) cars m ≠ none, fun σ' H' h => h, ?_⟩⟩
    obtain ⟨us, u1, u2, u3⟩ := id C4
    have hck := hcl kx
    have hk7 : 7 ^ kx ≤ 823543 := Nat.le_trans (Nat.pow_le_pow_right (by decide) (show kx ≤ 7 by omega)) (by decide)
    have hink := hin kx
    have hfk := hfl
    have hsucc : chs nar (kx + 1) = (chs nar kx).flatMap (extN nar) := rfl
    have hallk : kx = nar.length → nar ∈ chs nar kx := fun e => by rw [e]; exact hall
    have kret := fun H' l' c e t hl nw pre post (hp : chs nar kx = pre ++ c :: post) h1 h2 => k H' l' c e t hl nw ⟨kx, pre, post, hp, h1, h2, hno⟩
    have hno' : (∀ d ∈ chs nar kx, loser (widen secs d) cars m ≠ none) → ∀ j, j < kx + 1 → ∀ d ∈ chs nar j, loser (widen secs d) cars m ≠ none := fun h j hj => by
      by_cases e : j = kx
      · rw [e]; exact h
      · exact hno j (by omega)
    generalize chs nar kx = cs at *
    refine ⟨_, rfl, l, rfl, ⟨_, SqL.of u1⟩, for_it walk_list (fun i σ H5 => ∃ v5, σ = [some (.ref p), some (.ref a), some (.int m), some (.ref D), some (.ref l), v5, none, none, none, none] ∧ ExtN H4 H5 ∧ Tabs T H5 ∧ ∀ d ∈ cs.take i, loser (widen secs d) cars m ≠ none)
      ⟨_, rfl, fun _ _ e _ => e, T4, fun d hd => (by simp at hd)⟩ (fun i σ H5 _ ⟨_, _, e5, _⟩ => SqL.of (ExtN.lst e5 u1)) ?_ ?_⟩
    · rintro i y σ Hz H5 hi ⟨v5, rfl, e5, T5, h5⟩ ⟨e, hy⟩
      subst e
      rw [List.length_map, u2] at hi
      obtain ⟨t, ht, rfl⟩ : ∃ t, us[i]? = some t ∧ y = V.ref t := by
        rw [List.getElem?_map] at hy
        obtain ⟨t, z1, z2⟩ := Option.map_eq_some_iff.mp hy
        exact ⟨t, z1, z2.symm⟩
      obtain ⟨c, hc⟩ : ∃ c, cs[i]? = some c := ⟨_, List.getElem?_eq_getElem hi⟩
      have hcm := List.mem_of_getElem? hc
      have htl := ExtN.lst e5 (u3 i t c ht hc).2
      obtain ⟨hc1, hc2⟩ := hink c hcm
      have e45 := e4.trans e5
      refine ⟨_, rfl, _, rfl, _, rfl, _, rfl, t, natV c, rfl, .inr (SqL.of htl), ?_⟩
      refine ⟨[.ref p, .ref a, .int m], natV c ++ [], rfl, rfl, by rw [List.append_nil, natV_len]; exact Nat.le_of_lt (small1000 (by omega)), fun t2 ht2 => ?_⟩
      rw [List.append_nil]
      have s6 := sameNew ht2 (.tup (natV c))
      refine ⟨p, a, t2, secs, cars, m, c, rfl, upd_same, (rd.ext2 e45).ext2 (ExtN.same s6), (ct.ext e45).ext (ExtN.same s6), SO, CO, T5.ext s6, m0, m1, by omega, fun x hx => hlt x (hc1 x hx), fun H7 e7 T7 => ?_⟩
      have e57 := (ExtN.same s6).trans e7
      by_cases h : loser (widen secs c) cars m = none
      · rw [h]
        refine ⟨_, rfl, iteT ⟨_, rfl, ?_⟩⟩
        exact kret H7 t c (e45.trans e57) T7 (ExtN.lst e57 htl) ⟨(u3 i t c ht hc).1.2, by rw [hc2]; omega⟩ (cs.take i) (cs.drop (i + 1)) (take_mid hc) h h5
      · have : decide (strO (loser (widen secs c) cars m) = V.non) = false := by
          cases q : loser (widen secs c) cars m with
          | none => exact absurd q h
          | some z => rfl
        refine ⟨_, rfl, ?_⟩
        rw [this]
        refine iteF ⟨_, rfl, e5.trans e57, T7, fun d hd => ?_⟩
        rw [tk1 hc] at hd
        rcases List.mem_append.mp hd with hd | hd
        · exact h5 d hd
        · rw [List.mem_singleton.mp hd]
          exact h
    rintro σ H5 ⟨v5', rfl, e5, T5, h5⟩
    rw [List.length_map, u2, List.take_length] at h5
    have hkl : kx < nar.length := by
      rcases Nat.lt_or_ge kx nar.length with z | z
      · exact z
      · exact absurd hgood (h5 nar (hallk (by omega)))
    have e45 := e4.trans e5
    have hD5 := ExtN.lst e5 hD4
    have u15 := ExtN.lst e5 u1
    refine ⟨_, rfl, l, rfl, ⟨_, SqL.of u15⟩, fun D2 hD2 => ?_⟩
    refine walk_w walk_list (fun i H6 => Same H5 H6 ∧ CAt H H6 D2 ((cs.take i).flatMap (extN nar))) ⟨sameNew hD2 _, [], upd_same, rfl, fun i t d e1 e2 => by simp at e1⟩ (fun i H6 _ ⟨s6, _⟩ => SqL.of (s6 _ _ u15)) ?_ ?_
    · rintro i y Hz H6 hi ⟨s6, C6⟩ ⟨e, hy⟩
      subst e
      rw [List.length_map, u2] at hi
      obtain ⟨t, ht, rfl⟩ : ∃ t, us[i]? = some t ∧ y = V.ref t := by
        rw [List.getElem?_map] at hy
        obtain ⟨t, z1, z2⟩ := Option.map_eq_some_iff.mp hy
        exact ⟨t, z1, z2.symm⟩
      obtain ⟨c, hc⟩ : ∃ c, cs[i]? = some c := ⟨_, List.getElem?_eq_getElem hi⟩
      have hcm := List.mem_of_getElem? hc
      have htl5 := ExtN.lst e5 (u3 i t c ht hc).2
      obtain ⟨hc1, hc2⟩ := hink c hcm
      have hfi := hfk (cs.take i)
      have hti : (cs.take i).length ≤ 823543 := by rw [List.length_take]; omega
      have hmul : (cs.take i).length * nar.length ≤ 823543 * 7 := Nat.mul_le_mul hti (by omega)
      refine ⟨rfl, yes_of ?_⟩
      refine ⟨_, rfl, D, rfl, ⟨_, SqL.of (s6 _ _ hD5)⟩, ?_⟩
      refine walk_w walk_list (fun j Hj => Same H5 Hj ∧ CAt H Hj D2 ((cs.take i).flatMap (extN nar) ++ ((nar.take j).filter fun s => c.isEmpty || decide (c.getLastD 0 < s)).map fun s => c ++ [s]))
        ⟨s6, by rw [show ((nar.take 0).filter fun s => c.isEmpty || decide (c.getLastD 0 < s)).map (fun s => c ++ [s]) = [] from rfl, List.append_nil]; exact C6⟩ (fun i H _ ⟨s, _⟩ => SqL.of (s _ _ hD5)) ?_ ?_
      · clear s6 C6
        rintro j y Hz H7 hj ⟨s7, C7⟩ ⟨e, hy⟩
        subst e
        have hj' : j < nar.length := by rw [natV_len] at hj; exact hj
        obtain ⟨x, hx⟩ : ∃ x, nar[j]? = some x := ⟨_, List.getElem?_eq_getElem hj'⟩
        obtain rfl : y = V.int ((x : Nat) : Int) := by
          unfold natV at hy
          rw [List.getElem?_map, hx] at hy
          exact (Option.some.inj hy).symm
        have htl := s7 _ _ htl5
        have es : ((nar.take (j + 1)).filter fun s => c.isEmpty || decide (c.getLastD 0 < s)).map (fun s => c ++ [s]) = ((nar.take j).filter fun s => c.isEmpty || decide (c.getLastD 0 < s)).map (fun s => c ++ [s]) ++ if (c.isEmpty || decide (c.getLastD 0 < x)) = true then [c ++ [x]] else [] := by
          have key : ∀ pp : Nat → Bool, ((nar.take (j + 1)).filter pp).map (fun s => c ++ [s]) = ((nar.take j).filter pp).map (fun s => c ++ [s]) ++ if pp x = true then [c ++ [x]] else [] := fun pp => by
            rw [tk1 hx, List.filter_append, List.map_append]
            cases hb : pp x <;> simp [hb]
          exact key _
        have hfj : (((nar.take j).filter fun s => c.isEmpty || decide (c.getLastD 0 < s)).map fun s => c ++ [s]).length ≤ 7 := by
          rw [List.length_map]
          refine Nat.le_trans (List.length_filter_le _ _) ?_
          rw [List.length_take]
          omega
        rw [es, ← List.append_assoc]
        obtain ⟨gs, g1, g2, g3⟩ := id C7
        have fin : (c.isEmpty || decide (c.getLastD 0 < x)) = true → ∀ q xx, H7 q = none → upd H7 q (.lst [V.int ((x : Nat) : Int)]) xx = none → ∃ acc, upd (upd H7 q (.lst [V.int ((x : Nat) : Int)])) xx (.lst (natV c ++ [V.int ((x : Nat) : Int)])) D2 = some (.lst acc) ∧ acc.length < sizeLine ∧ (Same H5 (upd (upd (upd H7 q (.lst [V.int ((x : Nat) : Int)])) xx (.lst (natV c ++ [V.int ((x : Nat) : Int)]))) D2 (.lst (acc ++ [V.ref xx]))) ∧
            CAt H (upd (upd (upd H7 q (.lst [V.int ((x : Nat) : Int)])) xx (.lst (natV c ++ [V.int ((x : Nat) : Int)]))) D2 (.lst (acc ++ [V.ref xx]))) D2 ((cs.take i).flatMap (extN nar) ++ (((nar.take j).filter fun s => c.isEmpty || decide (c.getLastD 0 < s)).map fun s => c ++ [s]) ++ if (c.isEmpty || decide (c.getLastD 0 < x)) = true then [c ++ [x]] else [])) := fun hb q xx hq hxx => by
          rw [if_pos hb]
          have s13 := sameNew hq (.lst [V.int ((x : Nat) : Int)])
          have s14 := s13.trans (sameNew hxx (.lst (natV c ++ [V.int ((x : Nat) : Int)])))
          have hv : upd (upd H7 q (.lst [V.int ((x : Nat) : Int)])) xx (.lst (natV c ++ [V.int ((x : Nat) : Int)])) xx = some (.lst (natV (c ++ [x]))) := by rw [upd_same, natV_app]; rfl
          have nx : xx ≠ D2 := fun z => by
            have := s13 _ _ g1
            rw [← z, hxx] at this
            cases this
          have nw : NewL H xx := newL_of (e45.trans (ExtN.same (s7.trans s13))) hxx
          generalize upd (upd H7 q (.lst [V.int ((x : Nat) : Int)])) xx (.lst (natV c ++ [V.int ((x : Nat) : Int)])) = H9 at s14 hv ⊢
          refine ⟨_, s14 _ _ g1, ?_, fun b ob e => ?_, CAt.push (s14 _ _ g1) g2 (fun i t c e1 e2 => ⟨(g3 i t c e1 e2).1, s14 _ _ (g3 i t c e1 e2).2⟩) ⟨nx, nw⟩ hv⟩
          · rw [List.length_map, g2, List.length_append]
            exact Nat.lt_of_le_of_lt (show _ ≤ 823543 * 7 + 7 by omega) (by decide)
          · rw [upd_ne (ne_of_none e hD2)]
            exact s14 _ _ (s7 _ _ e)
        refine ⟨rfl, ?_⟩
        refine ⟨_, rfl, _, .inl ⟨_, SqL.of htl, rfl⟩, ?_⟩
        rcases List.eq_nil_or_concat c with ce | ⟨ini, la, ce⟩
        · have e1 : (natV c).isEmpty = true := by rw [ce]; rfl
          have e2 : c.isEmpty = true := by rw [ce]; rfl
          rw [e1]
          refine iteT (iteT ⟨_, rfl, _, rfl, by show 1 ≤ sizeLine; decide, fun q hq => ⟨t, q, _, _, rfl, rfl, sameNew hq _ _ _ htl, upd_same, by rw [natV_len, hc2]; exact Nat.le_of_lt (small1000 (by show kx + 1 ≤ 1000; omega)), fun xx hxx => fin (by rw [e2]; rfl) q xx hq hxx⟩⟩)
        · rw [List.concat_eq_append] at ce
          have e1 : (natV c).isEmpty = false := by rw [ce, natV_app]; cases natV ini <;> rfl
          have e2 : c.isEmpty = false := by rw [ce]; cases ini <;> rfl
          have e3 : c.getLastD 0 = la := by rw [ce, lastD_snoc]
          have htl2 : H7 t = some (.lst (natV ini ++ [V.int ((la : Nat) : Int)])) := by rw [htl, ce, natV_app]; rfl
          rw [e1]
          refine iteF ?_
          refine ⟨_, rfl, _, rfl, t, _, _, .int ((la : Nat) : Int), rfl, rfl, SqL.of htl2, atI_last _ _, _, rfl, _, _, rfl, rfl, _, rfl, ?_⟩
          by_cases h : la < x
          · rw [decide_eq_true (show ((la : Nat) : Int) < ((x : Nat) : Int) by omega)]
            exact iteT ⟨_, rfl, _, rfl, by show 1 ≤ sizeLine; decide, fun q hq => ⟨t, q, _, _, rfl, rfl, sameNew hq _ _ _ htl, upd_same, by rw [natV_len, hc2]; exact Nat.le_of_lt (small1000 (by show kx + 1 ≤ 1000; omega)), fun xx hxx => fin (by rw [e2, e3, decide_eq_true h]; rfl) q xx hq hxx⟩⟩
          · rw [decide_eq_false (show ¬ ((la : Nat) : Int) < ((x : Nat) : Int) by omega)]
            refine iteF ⟨s7, ?_⟩
            rw [if_neg (by rw [e2, e3, decide_eq_false h]; decide), List.append_nil]
            exact C7
      · rintro H7 ⟨s7, C7⟩
        rw [natV_len, List.take_length] at C7
        refine ⟨s7, ?_⟩
        rw [tk1 hc, List.flatMap_append]
        have : [c].flatMap (extN nar) = (nar.filter fun s => c.isEmpty || decide (c.getLastD 0 < s)).map fun s => c ++ [s] := by simp [extN]
        rw [this]
        exact C7
    rintro H6 ⟨s6, C6⟩
    rw [List.length_map, u2, List.take_length, ← hsucc] at C6
    exact ⟨_, by omega, kx + 1, D2, _, rfl, hkl, rfl, e45.trans (ExtN.same s6), T5.ext s6, s6 _ _ hD5, C6, hno' h5⟩
end
end Sl

set_option Elab.async false
set_option linter.all false
set_option maxRecDepth 100000
set_option maxHeartbeats 2000000
namespace Sl
open PySem PySem.Spec L2 OwnR LamX
/-- an instance is called -/
def InsH (H : Hp) (a C : Addr) : Prop := (∃ dx vs, SlX.Slt H a C dx vs) ∨ ∃ dx fs, H a = some (.ins C dx fs)
def tCallH (C : Addr) (sp : Sp) (E : XK) (tf : TE) (t : TA) : TE := fun σ H Q => tf σ H fun y H1 => ∃ a, y = V.ref a ∧ t σ H1 fun vs H2 => InsH H2 a C ∧ sp (V.ref a :: vs) H2 Q E
theorem pe_callH {X : Cx} {CX : CXT} {k : Nat} {C : Addr} {sp : Sp} {E : XK} {e fe : Expr} {es : List Expr} {tf : TE} {t : TA} {pos : Pos} {g : Addr} (hf : PE X fe tf) (c : StX.CallO X.K C g) (F : FnR X.prog X.w X.K X.mg X.base CX k g sp) (hr : Room k X.A) (hx : Passes CX X E) (ha : PA X (e :: es) t)
    (ht : eval (.Call fe (e :: es) [] pos) X.env = (do callWith pos (← eval fe X.env) [] (backTo pos (starEach (e :: es) X.env)) (backToKw pos (keywordEach [] X.env))) := by rfl)
    (he : starEach (e :: es) X.env = (false, eval e X.env) :: starEach es X.env := by rfl) (hpl : (backTo pos (starEach es X.env)).any (·.1) = false := by rfl) : PE X (.Call fe (e :: es) [] pos) (tCallH C sp E tf t) := StX.pe_callO hf c F hr hx ha ht he hpl
/-- all harmful widenings -/
def harmP (secs : List Sec) (cars : List Car) (k : Nat) (c : Car) : Bool := decide (arrT secs cars c.name < arrT (widen secs [k]) cars c.name)
def harmAt (secs : List Sec) (cars : List Car) (k i : Nat) : List (Nat × Str) := ((cars.take i).filter (harmP secs cars k)).map fun c => (k, c.name)
def harmL (secs : List Sec) (cars : List Car) (n : Nat) : List (Nat × Str) := (List.range n).flatMap fun k => harmAt secs cars k cars.length
def harmV (q : Nat × Str) : List V := [.int (q.1 : Nat), .str q.2]
theorem harmAt_len (secs : List Sec) (cars : List Car) (k i : Nat) : (harmAt secs cars k i).length ≤ cars.length := by
  unfold harmAt
  rw [List.length_map]
  refine Nat.le_trans (List.length_filter_le _ _) ?_
  rw [List.length_take]
  exact Nat.min_le_right _ _
theorem harmL_succ (secs : List Sec) (cars : List Car) (n : Nat) : harmL secs cars (n + 1) = harmL secs cars n ++ harmAt secs cars n cars.length := by
  unfold harmL
  rw [List.range_succ, List.flatMap_append]
  simp
theorem harmL_len (secs : List Sec) (cars : List Car) : ∀ n, (harmL secs cars n).length ≤ n * cars.length
  | 0 => Nat.zero_le _
  | n + 1 => by
    rw [harmL_succ, List.length_append, Nat.add_mul]
    have h1 := harmL_len secs cars n
    have h2 := harmAt_len secs cars n cars.length
    omega
theorem tups_ext2 {H H1 : Hp} {a b : Addr} {v1 v2 : List (List V)} (h1 : TupsAt H a v1) (h2 : TupsAt H b v2) : ∃ xs ys, H a = some (.lst xs) ∧ H b = some (.lst ys) ∧ xs.length = v1.length ∧ ys.length = v2.length ∧ TupsAt (upd H a (.lst (xs ++ ys))) a (v1 ++ v2) := by
  obtain ⟨t1, a1, a2, a3⟩ := h1
  obtain ⟨t2, b1, b2, b3⟩ := h2
  refine ⟨t1.map V.ref, t2.map V.ref, a1, b1, by rw [List.length_map, a2], by rw [List.length_map, b2], t1 ++ t2, by rw [upd_same, List.map_append], by rw [List.length_append, List.length_append, a2, b2], fun i t v e1 e2 => ?_⟩
  have key : H t = some (.tup v) := by
    by_cases hi : i < t1.length
    · rw [List.getElem?_append_left hi] at e1
      rw [List.getElem?_append_left (by omega)] at e2
      exact a3 i t v e1 e2
    · rw [List.getElem?_append_right (by omega)] at e1
      rw [List.getElem?_append_right (by omega), ← a2] at e2
      exact b3 _ t v e1 e2
  rw [upd_ne (ne_of key a1 (by intro z; cases z))]
  exact key
section
variable {P : Program} {w : World} {K : PySem.W.Frag} {mg : Str → Option Value} {base : Heap}
theorem ip_ext {X : Cx} : PIp X .Add rExt2 := fun pins s σ H x y v u Q I rx ry h => iop_ext pins s σ H x y v u Q I rx ry h
/-! ### harmful_widenings -/
def spHarm (CR : Addr) (T : List (Addr × Str)) : Sp := fun vs H Q _ => ∃ (p a : Addr) (secs : List Sec) (cars : List Car), vs = [.ref p, .ref a] ∧ RoadAt CR H p secs ∧ CarsAt H a cars ∧ SecsOk secs ∧ CarsOk cars ∧ Tabs T H ∧
  ∀ H' l, ExtN H H' → Tabs T H' → NewL H l → TupsAt H' l ((harmL secs cars secs.length).map harmV) → Q (.ref l) H'
def nHarm : List Str := ["road", "cars", "drive", "harmful", "section", "wider", "name", "start", "pace"]
abbrev spCallR1 (C : Addr) : Sp := fun vs H Q E => spCallD C (vs ++ [V.non]) H Q E
theorem scHarm : FnScope nHarm ["road", "cars"] (defScope sHarmfulWidenings) := ⟨rfl, rfl, rfl, by decide +kernel, rfl, by decide +kernel, by decide +kernel⟩
theorem ok_harm {f CR C pp fP fW lp kp : Addr} {fd dP : FuncData} {T : List (Addr × Str)} (F : Fun K "harmful_widenings" "harmful_widenings" sHarmfulWidenings f fd) (I : Inf63 P w K mg base CR C T) (RR : RoadT K w mg CR lp kp)
    (PO : PropOf K CR "sections" pp fP) (bP : Binds K dP ["self"] []) (GP : FnOk P w K mg base CX0 1 fP dP ["self"] (getSp CR "_sections"))
    (hm : Meth K CR "widened" fW) (GW : FnR P w K mg base CX0 5 fW (spWid CR)) : FnOk P w K mg base CX0 7 f fd ["road", "cars"] (spHarm CR T) := by
  refine F.ok scHarm (fun vs H Q E h => ?_) (fun cdv A outer s H vs Q E hr h => ?_)
  · obtain ⟨p, a, secs, cars, rfl, _⟩ := h
    rfl
  · obtain ⟨p, a, secs, cars, rfl, rd, ct, SO, CO, T0, k⟩ := h
    have nd := scHarm.nd
    have M := I.M
    have R := I.R
    obtain ⟨fI, dI, MI, bI, GI⟩ := I.init
    obtain ⟨fQ, dQ, ds, CO2, bC1, vC, GQ⟩ := I.call
    have hr2 : Room 2 (A.deeper (PyProof.Rows.envOfC "harmful_widenings" (defScope sHarmfulWidenings) s.heap.objs.size f cdv)) := hr.mono (by decide)
    have hr3 : Room 3 (A.deeper (PyProof.Rows.envOfC "harmful_widenings" (defScope sHarmfulWidenings) s.heap.objs.size f cdv)) := hr.mono (by decide)
    have hr5 : Room 5 (A.deeper (PyProof.Rows.envOfC "harmful_widenings" (defScope sHarmfulWidenings) s.heap.objs.size f cdv)) := hr.mono (by decide)
    refine ⟨_, pss_cons (ps_set (i := 2) nd rfl (.inr rfl) (pe_make MI GI hr (by rfl) R.mgC bI .nil pass0 (pa_cons (pv 0) (pa_cons (pv 1) pa_nil))))
      (pss_cons (ps_set (i := 3) nd rfl (.inl rfl) (pe_lst pa_nil))
      (pss_cons (ps_for PassesOwn.never rfl (pi_range1 (by rfl) M.range (pa_cons (pe_callB call_len_seq (by rfl) M.len boot_len (pa_cons (pe_prop (pv 0) RR.cl PO GP hr2 bP .nil pass0 rfl) pa_nil)) pa_nil)) (pg_name (i := 4) nd rfl (.inr rfl))
        (pss_cons (ps_set (i := 5) nd rfl (.inr rfl) (pe_make MI GI hr (by rfl) R.mgC bI .nil pass0 (pa_cons (pe_methR (pv 0) RR.cl hm GW hr5 pass0 (pa_cons (pv 4) pa_nil)) (pa_cons (pv 1) pa_nil))))
        (pss_one (ps_aug (i := 3) nd rfl (.inl rfl) (pe_lc (own := [("name", 6), ("start", 7), ("pace", 8)]) (g := gTup K 3 (gCons (gName 6) (gCons (gName 7) (gCons (gName 8) gNil)))) (tt := tTest (tOp (rI0 fun i j => .bl (decide (j < i))) (tCallH C (spCallR1 C) E0 (tVar 5) (tCons (tVar 6) tNil)) (tCallH C (spCallR1 C) E0 (tVar 2) (tCons (tVar 6) tNil)))) (te := tTup (tCons (tVar 4) (tCons (tVar 6) tNil))) (by rfl) nd (pi_tup (pv 1)) (blkOk_by (N := nHarm) (sc := defScope sHarmfulWidenings) (by decide +kernel))
            (fun _ _ _ _ _ => pg_tup rfl (pgs_cons (pg_name (i := 6) nd rfl (Or.inl rfl)) (pgs_cons (pg_name (i := 7) nd rfl (Or.inl rfl)) (pgs_cons (pg_name (i := 8) nd rfl (Or.inl rfl)) pgs_nil))))
            (fun _ _ _ _ _ => pts_one (pt_cmpR op_gt (pe_callH (pv 5) CO2 (GQ.raw bC1 vC) hr3 pass0 (pa_cons (pv 6) pa_nil)) (pe_callH (pv 2) CO2 (GQ.raw bC1 vC) hr3 pass0 (pa_cons (pv 6) pa_nil)) (nomark _))) (fun _ _ _ _ _ => pe_tup (pa_cons (pv 4) (pa_cons (pv 6) pa_nil)))) ip_ext))))
      (pss_one (ps_ret (pv 3))))), ?_⟩
    have few := CO.few
    have h12 := SO.few
    refine ⟨_, rfl, _, rfl, fun dv dx hdv hdx ndx => mk_drive rd ct SO CO T0 hdv hdx fun H3 e3 T3 da3 => ⟨rfl, ?_⟩⟩
    refine ⟨Nat.zero_le _, fun L hL => ?_⟩
    have s4 := sameNew hL (.lst [])
    obtain ⟨rdx, rts, ru, r1, r2, r3⟩ := id (rd.ext2 e3)
    obtain ⟨us, r4, r5, r6⟩ := id r2
    have hus : (us.map V.ref).length = secs.length := by rw [List.length_map, r5]
    obtain ⟨ts, c1, c2, c3⟩ := id (ct.ext e3)
    have hl : (ts.map V.ref).length = cars.length := by rw [List.length_map, c2]
    refine ⟨_, rfl, p, rdx, _, rfl, s4 _ _ r1, p, rdx, _, _, rfl, s4 _ _ r1, rf_sections _ _, rts, _, rfl, .inr (SqT.of (s4 _ _ r4)), _, rfl, by rw [hus]; omega, by rw [hus]; omega, ?_⟩
    rw [hus, Int.toNat_natCast]
    refine for_it walk_range (fun i σ H5 => ∃ v4 v5, σ = [some (.ref p), some (.ref a), some (.ref dv), some (.ref L), v4, v5, none, none, none] ∧ ExtN H3 H5 ∧ Tabs T H5 ∧ TupsAt H5 L ((harmL secs cars i).map harmV))
      ⟨none, none, rfl, ExtN.same s4, T3.ext s4, tups_nil upd_same⟩ (fun _ _ _ _ _ => True.intro) ?_ ?_
    · rintro i x σ H6 H5 hi ⟨v4, v5, rfl, e5, T5, U5⟩ ⟨e, ex⟩
      have ex : x = V.int ((i : Nat) : Int) := by
        rw [ex]
        show V.int (0 + ((i : Nat) : Int)) = _
        rw [Int.zero_add]
      subst e ex
      have rd5 := (rd.ext2 e3).ext2 e5
      have ct5 := (ct.ext e3).ext e5
      have r15 := ExtN.ins e5 r1
      refine ⟨_, rfl, p, rdx, _, rfl, r15, rf_no _ _ (by decide +kernel) (by decide +kernel), _, rfl, [.ref p], [.int ((i : Nat) : Int)], rfl, rfl, by show 1 ≤ sizeLine; decide, fun t ht => ?_⟩
      have st := sameNew ht (.tup [V.int ((i : Nat) : Int)])
      refine ⟨p, t, secs, [i], rfl, upd_same, rd5.ext2 (ExtN.same st), SO, by show 1 ≤ 1000; decide, fun j hj => by rw [List.mem_singleton.mp hj]; exact hi, fun H7 q s7 rd7 => ?_⟩
      have s57 := st.trans s7
      refine ⟨_, rfl, fun dw dy hdw hdy ndy => mk_drive rd7 (ct5.ext (ExtN.same s57)) (widen_ok SO [i]) CO (T5.ext s57) hdw hdy fun H8 e8 T8 da8 => ⟨rfl, ?_⟩⟩
      have e58 : ExtN H5 H8 := (ExtN.same s57).trans e8
      have U8 := U5.ext e58
      have e38 := e5.trans e58
      have c18 := ExtN.tup e38 c1
      refine ⟨_, rfl, ?_⟩
      refine ⟨_, rfl, a, rfl, ⟨_, SqT.of c18⟩, fun D hD => ?_⟩
      refine lc_it walk_tup (fun j H9 => Same H8 H9 ∧ TupsAt H9 D ((harmAt secs cars i j).map harmV)) ⟨sameNew hD _, tups_nil upd_same⟩ (fun j H9 _ ⟨k9, _⟩ => SqT.of (k9 _ _ c18)) ?_ ?_
      · rintro j y Hz H9 hj ⟨k9, U9⟩ ⟨e, hy⟩
        subst e
        obtain ⟨t', ht', rfl⟩ : ∃ t, ts[j]? = some t ∧ y = V.ref t := by
          rw [List.getElem?_map] at hy
          obtain ⟨t, z1, z2⟩ := Option.map_eq_some_iff.mp hy
          exact ⟨t, z1, z2.symm⟩
        rw [hl] at hj
        obtain ⟨c, hc⟩ : ∃ c, cars[j]? = some c := ⟨_, List.getElem?_eq_getElem hj⟩
        have hcn : c.name ∈ names cars := List.mem_map.mpr ⟨c, List.mem_of_getElem? hc, rfl⟩
        have hct := k9 _ _ (ExtN.tup e38 (c3 j t' c ht' hc))
        refine ⟨t', _, rfl, SqT.of hct, rfl, _, _, rfl, _, _, rfl, _, _, rfl, rfl, rfl, ?_⟩
        have da9 := da8.ext (ExtN.same k9)
        have db9 := da3.ext (e38.trans (ExtN.same k9))
        obtain ⟨_, W9, D9⟩ := id da9
        obtain ⟨_, V9, E9⟩ := id db9
        refine ⟨_, rfl, dw, rfl, _, rfl, .inr ⟨_, _, D9.ins⟩, dw, widen secs [i], cars, c.name, (widen secs [i]).length, .non, rfl, da9, hcn, Nat.le_refl _, .inl ⟨rfl, rfl⟩, ?_⟩
        refine ⟨_, rfl, dv, rfl, _, rfl, .inr ⟨_, _, E9.ins⟩, dv, secs, cars, c.name, secs.length, .non, rfl, db9, hcn, Nat.le_refl _, .inl ⟨rfl, rfl⟩, _, _, rfl, rfl, _, rfl, ?_⟩
        have hs : harmAt secs cars i (j + 1) = harmAt secs cars i j ++ if harmP secs cars i c = true then [(i, c.name)] else [] := by
          unfold harmAt
          rw [tk1 hc, List.filter_append, List.map_append]
          cases hp : harmP secs cars i c <;> simp [hp]
        rw [hs]
        by_cases hp : (plcC secs cars secs.length).tk c.name < (plcC (widen secs [i]) cars (widen secs [i]).length).tk c.name
        · have hp2 : harmP secs cars i c = true := decide_eq_true hp
          rw [decide_eq_true hp, if_pos hp2]
          refine iteT ⟨_, rfl, _, rfl, by show 2 ≤ sizeLine; decide, fun x hx => ?_⟩
          obtain ⟨as, q1, q2, q3⟩ := id U9
          have sx := sameNew hx (.tup [V.int ((i : Nat) : Int), V.str c.name])
          have al := harmAt_len secs cars i j
          refine ⟨_, sx _ _ q1, by rw [List.length_map, q2, List.length_map]; exact small1000 (by omega), fun b o e => by rw [upd_ne (ne_of_none e hD)]; exact sx _ _ (k9 _ _ e), ?_⟩
          rw [List.map_append]
          exact tups_push q1 q2 q3 hx _
        · have hp2 : harmP secs cars i c = false := decide_eq_false hp
          rw [decide_eq_false hp, hp2, if_neg Bool.false_ne_true, List.append_nil]
          exact iteF ⟨k9, U9⟩
      · rintro H9 ⟨k9, U9⟩
        rw [hl] at U9
        have V9 := U8.same k9
        obtain ⟨xs, ys, x1, x2, x3, x4, x5⟩ := tups_ext2 (H1 := H9) V9 U9
        have al := harmAt_len secs cars i cars.length
        have ll := harmL_len secs cars i
        have mul : i * cars.length ≤ 12 * 10 := Nat.mul_le_mul (by omega) few
        refine ⟨L, D, xs, ys, rfl, rfl, x1, x2, by rw [x3, x4, List.length_map, List.length_map]; have := line_big; omega, ?_⟩
        refine ⟨_, _, rfl, fun b o e n => ?_, Tabs.keepL (T8.ext k9) fun b o e n => by rw [upd_ne (ne_of e x1 (n _))]; exact e, ?_⟩
        · have hb : b ≠ L := fun z => by
            rw [z, hL] at e
            cases e
          rw [upd_ne hb]
          exact k9 _ _ (e38 b o e n)
        · rw [harmL_succ, List.map_append]
          exact x5
    · rintro σ H5 ⟨v4, v5, rfl, e5, T5, U5⟩
      exact ⟨_, rfl, k H5 L (e3.trans e5) T5 (newL_of e3 hL) U5⟩
end
end Sl

set_option Elab.async false
set_option linter.all false
set_option maxRecDepth 100000
set_option maxHeartbeats 2000000
/-! Lambdas as values: made (with a default, or none), kept in lists, handed to a def that calls them, called. -/
namespace OwnR
open PySem PySem.Spec PyProof.Rows L2 LamX
/-- the text of a lambda; own: its one parameter, whose default is 0 -/
structure LamT where
  par : Arguments
  body : Expr
  scope : Scope
  own : Option Str
/-- at f: the lambda, its defaults at dV -/
def LamA (f : Addr) (q : Str) (cl : List (Str × Addr)) (T : LamT) (c' : Addr) (dV : Value) : HO :=
  .ext fun h => ∃ doc pm ctv : Value, h.get? f = some (PySem.W.kdv_obj "<lambda>" q T.par (.expr T.body) T.scope cl dV doc pm c' ctv)
theorem lamA_tbl {f c' : Addr} {q : Str} {cl : List (Str × Addr)} {T : LamT} {dV : Value} (ps : Array Value) : LamA f q cl T c' dV ≠ .tbl ps := fun z => by
  unfold LamA at z
  cases z
/-- a lambda of the maker (its name q, its cells cl) stands at f -/
def LamV (q : Str) (cl : List (Str × Addr)) (H : Hp) (f : Addr) (T : LamT) : Prop :=
  ∃ (c' : Addr) (dV : Value), H f = some (LamA f q cl T c' dV) ∧ H c' = some (CodeO c' q) ∧ ((T.own = none ∧ dV = .none) ∨ ∃ (a : Str) (t : Addr), T.own = some a ∧ dV = .ref t ∧ H t = some (.tup [.int 0]))
theorem LamV.ext {q : Str} {cl : List (Str × Addr)} {H H' : Hp} {f : Addr} {T : LamT} (h : LamV q cl H f T) (e : ExtN H H') : LamV q cl H' f T := by
  obtain ⟨c', dV, h1, h2, h3⟩ := h
  refine ⟨c', dV, e _ _ h1 lamA_tbl, e _ _ h2 codeO_ne, ?_⟩
  rcases h3 with h3 | ⟨a, t, h4, h5, h6⟩
  · exact .inl h3
  · exact .inr ⟨a, t, h4, h5, e _ _ h6 (fun _ z => nomatch z)⟩
/-- the parameters bind -/
def LamB (T : LamT) : Prop := match T.own with
  | none => ∀ (q : Str) (cl : List (Str × Addr)) (doc pm cv ctv : Value), bindArgs (PySem.W.kdv_fn "<lambda>" q T.par (.expr T.body) T.scope cl .none doc pm cv ctv) ⟨[], []⟩ = pure []
  | some a => ∀ (q : Str) (cl : List (Str × Addr)) (t : Addr) (doc pm cv ctv : Value), ∃ k : Option (Array Value) → Sem (List (Str × Value)),
      bindArgs (PySem.W.kdv_fn "<lambda>" q T.par (.expr T.body) T.scope cl (.ref t) doc pm cv ctv) ⟨[], []⟩ = (seqItems? (.ref t) >>= k) ∧ ∀ v : Value, k (some #[v]) = pure [(a, v)]
/-- its names: globals, the maker's cells, its parameter (no name of the maker's) -/
structure LamS2 (N : List Str) (sc : Scope) (T : LamT) : Prop where
  kind : T.scope.kind = .function
  co : T.scope.isCoroutine = false
  gen : T.scope.isGenerator = false
  cell : ∀ y ∈ T.scope.names, y.2 ≠ .cell
  loc : ∀ y ∈ T.scope.names, y.2 = .local → y.1 ∉ N
  free : ∀ y ∈ T.scope.names, y.2 = .free → sc.names.lookup y.1 = some .cell ∨ sc.names.lookup y.1 = some .free
  par : ∀ a, T.own = some a → T.scope.names.lookup a = some .local
def lamS2B (N : List Str) (sc : Scope) (T : LamT) : Bool :=
  decide (T.scope.kind = .function) && !T.scope.isCoroutine && !T.scope.isGenerator && (match T.own with | none => true | some a => decide (T.scope.names.lookup a = some .local)) &&
    T.scope.names.all fun y => !decide (y.2 = .cell) && (!decide (y.2 = .local) || !decide (y.1 ∈ N)) && (!decide (y.2 = .free) || decide (sc.names.lookup y.1 = some .cell) || decide (sc.names.lookup y.1 = some .free))
theorem lamS2_by {N : List Str} {sc : Scope} {T : LamT} (h : lamS2B N sc T = true) : LamS2 N sc T := by
  unfold lamS2B at h
  simp only [Bool.and_eq_true, Bool.or_eq_true, Bool.not_eq_true', decide_eq_true_eq, decide_eq_false_iff_not, List.all_eq_true] at h
  obtain ⟨⟨⟨⟨h1, h2⟩, h3⟩, h5⟩, h4⟩ := h
  refine ⟨h1, h2, h3, fun y hy => (h4 y hy).1.1, fun y hy e => ?_, fun y hy e => ?_, fun a e => ?_⟩
  · rcases (h4 y hy).1.2 with z | z
    · exact absurd e z
    · exact z
  · rcases (h4 y hy).2 with (z | z) | z
    · exact absurd e z
    · exact .inl z
    · exact .inr z
  · rw [e] at h5
    exact of_decide_eq_true h5
theorem LamS2.has {X : Cx} {T : LamT} (L : LamS2 X.N X.env.scope T) (ok : X.Ok) : ∀ y ∈ T.scope.names, y.2 = .free → ∃ c, X.env.cells.lookup y.1 = some c := fun y hy e => (L.free y hy e).elim (fun z => ok.has _ (.inl z)) fun z => ok.has _ (.inr z)
/-- the maker's name for its lambdas, the cells that a lambda gets -/
abbrev lq (X : Cx) : Str := X.env.qual ++ "<lambda>"
abbrev lcl (X : Cx) (T : LamT) : List (Str × Addr) := cloFrom X.env.cells T.scope.names []
section
variable {X : Cx} {pins : List (Addr × Obj)} {σ : L2.St} {H : Hp} {s : Shared}
/-- the function object is laid and known -/
theorem fn_laid {f c' : Addr} {T : LamT} {dV doc pm ctv : Value} {h' : Heap} {t' : Nat} (I : Inv X pins σ H { s with heap := h', toks := t' }) (hf : f = h'.objs.size) :
    Inv X pins σ (upd H f (LamA f (lq X) (lcl X T) T c' dV)) { s with heap := h'.push (PySem.W.kdv_obj "<lambda>" (lq X) T.par (.expr T.body) T.scope (lcl X T) dV doc pm c' ctv), toks := t' } := by
  subst hf
  have hg : (h'.push (PySem.W.kdv_obj "<lambda>" (lq X) T.par (.expr T.body) T.scope (lcl X T) dV doc pm c' ctv)).get? h'.objs.size = some (PySem.W.kdv_obj "<lambda>" (lq X) T.par (.expr T.body) T.scope (lcl X T) dV doc pm c' ctv) := Heap.get?_push_size _ rfl
  have new : ObjOk X.prog X.w (upd H h'.objs.size (LamA h'.objs.size (lq X) (lcl X T) T c' dV)) (h'.push (PySem.W.kdv_obj "<lambda>" (lq X) T.par (.expr T.body) T.scope (lcl X T) dV doc pm c' ctv)) h'.objs.size (LamA h'.objs.size (lq X) (lcl X T) T c' dV) :=
    ⟨⟨doc, pm, ctv, hg⟩, ⟨_, hg⟩, fun h1 h2 ⟨d, p, c, e⟩ k => ⟨d, p, c, k _ e⟩⟩
  exact I.laid (s := { s with heap := h', toks := t' }) (t' := t') (fun b o e => Heap.get?_push_of_some _ e) (Nat.le_refl _) new
/-- the lambda's object is made, its defaults at dV -/
theorem tail_makeV {T : LamT} {dV : Value} {Tb : List (Addr × Str)} {c P : Addr} {pos : Pos} {E : Value → Shared → Prop} {Q : Value → Shared → Prop} (I : Inv X pins σ H s) (TB : TabB X.base X.mg c P) (hcode : X.env.code = .ref c)
    (hm : (P, lq X) ∈ Tb) (hu : ∀ p ∈ Tb, p.1 = P → p.2 = lq X) (hT : Tabs Tb H) (hfree : ∀ y ∈ T.scope.names, y.2 = .free → ∃ c, X.env.cells.lookup y.1 = some c)
    (h : ∀ (f c' : Addr) (H1 : Hp) (s' : Shared), Inv X pins σ H1 s' → ExtN H H1 → Tabs Tb H1 → H1 f = some (LamA f (lq X) (lcl X T) T c' dV) → H1 c' = some (CodeO c' (lq X)) → Q (.ref f) s') :
    wpAny (model X.prog X.w) X.A (makeTail "<lambda>" (lq X) T.par (.expr T.body) T.scope X.env dV .none none pos pos.line) Q E s := by
  obtain ⟨ps, hP, ht, ha⟩ := hT _ hm
  have bP : s.heap.BuiltinsAt X.mg P := TB.bm.keeps I.bk
  have hP' : s.heap.get? P = some { cls := .none, data := .fields ps } := I.hok P _ hP
  cases hc : codeAmong pos ps.toList with
  | none =>
    refine PySem.W.kdv_makeTail (mg := X.mg) (c := c) (P := P) (ps := ps) (closure_ok hfree) I.ok.glob (I.mod.glob.keeps I.bk) hcode (TB.code.keeps I.bk) hP' ht hc TB.gP bP fun c' ctv doc h' tk hx hge hlt hrec htb => ?_
    obtain ⟨c2, oc, vs, t, e2, hoc, hd, hv⟩ := hrec
    cases e2
    have hsz : s.heap.objs.size ≤ h'.objs.size := Nat.le_trans hge (Nat.le_of_lt hlt)
    have nC : H c' = none := I.hok.fresh hge
    have I1 := inv_table (t' := tk) (more := #[rawInt pos.line, rawInt pos.col, .ref c']) (h' := h') I hP hx htb hge ⟨oc, vs, t, hoc, hd, hv⟩
    have hE : ExtN H (upd (upd H P (.tbl (ps ++ #[rawInt pos.line, rawInt pos.col, .ref c']))) c' (CodeO c' (lq X))) := fun b o e n => by
      rw [upd_ne (ne_of_none e nC), upd_ne (fun z => n ps (Option.some.inj (e.symm.trans (by rw [z]; exact hP))))]
      exact e
    have n1 : h'.objs.size ≠ c' := Nat.ne_of_gt hlt
    have nF : (upd (upd H P (.tbl (ps ++ #[rawInt pos.line, rawInt pos.col, .ref c']))) c' (CodeO c' (lq X))) h'.objs.size = none := by
      have n2 : h'.objs.size ≠ P := Nat.ne_of_gt (Nat.lt_of_lt_of_le (Heap.lt_size hP') hsz)
      rw [upd_ne n1, upd_ne n2]
      exact I.hok.fresh hsz
    have I2 := fn_laid (T := T) (c' := c') (dV := dV) (doc := doc) (pm := (X.mg "__name__").getD .none) (ctv := ctv) I1 rfl
    have eL : (ps ++ #[rawInt pos.line, rawInt pos.col, .ref c']).toList = ps.toList ++ [rawInt pos.line, rawInt pos.col, .ref c'] := by simp
    have T1 : Tabs Tb (upd (upd H P (.tbl (ps ++ #[rawInt pos.line, rawInt pos.col, .ref c']))) c' (CodeO c' (lq X))) := fun p hp => by
      by_cases hb : p.1 = P
      · rw [hu p hp hb, hb]
        refine ⟨_, by rw [upd_ne (ne_of_none hP nC), upd_same], by rw [eL]; exact PySem.TriplesOk_snoc _ _ _ _ ht, fun p' cv hcv => ?_⟩
        rw [eL] at hcv
        rcases among_app _ ht hcv with z | z
        · obtain ⟨c0, e1, e2⟩ := ha p' cv z
          exact ⟨c0, e1, hE _ _ e2 codeO_ne⟩
        · exact ⟨c', z, upd_same⟩
      · obtain ⟨ps', a1, a2, a3⟩ := hT p hp
        refine ⟨ps', by rw [upd_ne (ne_of_none a1 nC), upd_ne hb]; exact a1, a2, fun p' cv hcv => ?_⟩
        obtain ⟨c0, e1, e2⟩ := a3 p' cv hcv
        exact ⟨c0, e1, hE _ _ e2 codeO_ne⟩
    have sN : ∀ b o, (upd (upd H P (.tbl (ps ++ #[rawInt pos.line, rawInt pos.col, .ref c']))) c' (CodeO c' (lq X))) b = some o → (upd (upd (upd H P (.tbl (ps ++ #[rawInt pos.line, rawInt pos.col, .ref c']))) c' (CodeO c' (lq X))) h'.objs.size (LamA h'.objs.size (lq X) (lcl X T) T c' dV)) b = some o := fun b o e => by
      rw [upd_ne (ne_of_none e nF)]
      exact e
    exact h _ c' _ _ I2 (fun b o e n => sN _ _ (hE b o e n)) (T1.ext sN) upd_same (sN _ _ upd_same)
  | some cv =>
    obtain ⟨c', e, hco⟩ := ha pos cv hc
    subst e
    refine PySem.W.kdv_makeTailHit (mg := X.mg) (c := c) (P := P) (ps := ps) (closure_ok hfree) I.ok.glob (I.mod.glob.keeps I.bk) hcode (TB.code.keeps I.bk) hP' ht hc bP fun ctv doc h' tk hx hsz => ?_
    have I1 : Inv X pins σ H { s with heap := h', toks := tk } := I.kept hx
    have I2 := fn_laid (T := T) (c' := c') (dV := dV) (doc := doc) (pm := (X.mg "__name__").getD .none) (ctv := ctv) I1 rfl
    have nF : H h'.objs.size = none := I.hok.fresh hsz
    have sN : ∀ b o, H b = some o → (upd H h'.objs.size (LamA h'.objs.size (lq X) (lcl X T) T c' dV)) b = some o := fun b o e => by
      rw [upd_ne (ne_of_none e nF)]
      exact e
    exact h _ c' _ _ I2 (ExtN.of sN) (hT.ext sN) upd_same (sN _ _ hco)
/-- the reading of a lambda: a new one stands there -/
def tLamV (Tb : List (Addr × Str)) (q : Str) (cl : List (Str × Addr)) (T : LamT) : TE := fun _ H Q => Tabs Tb H ∧ ∀ (H1 : Hp) (f : Addr), ExtN H H1 → Tabs Tb H1 → LamV q cl H1 f T → Q (.ref f) H1
/-- lambda: body -/
theorem pe_lamV0 {T : LamT} {Tb : List (Addr × Str)} {c P : Addr} {pos : Pos} (TB : TabB X.base X.mg c P) (hcode : X.env.code = .ref c) (hm : (P, lq X) ∈ Tb) (hu : ∀ p ∈ Tb, p.1 = P → p.2 = lq X) (L : LamS2 X.N X.env.scope T)
    (hw : T.own = none) (hdef : defaultsOf T.par X.env = ([], []) := by rfl) : PE X (.Lambda T.par T.body T.scope pos) (tLamV Tb (lq X) (lcl X T) T) := by
  refine ⟨fun pins s σ H Q I h => ?_⟩
  obtain ⟨hT, h⟩ := h
  refine PySem.W.kla_eval hdef ?_
  rw [makeFunction_eq]
  simp only [List.zip_nil_right, List.filterMap_nil, List.isEmpty_nil, if_true, pure_bind]
  exact tail_makeV I TB hcode hm hu hT (L.has I.ok) fun f c' H1 s' I1 e1 T1 h1 h2 => ⟨.ref f, H1, I1, rfl, h H1 f e1 T1 ⟨c', .none, h1, h2, .inl ⟨hw, rfl⟩⟩⟩
/-- lambda a=0: body -/
theorem pe_lamD0 {T : LamT} {Tb : List (Addr × Str)} {c P : Addr} {pos p0 : Pos} {j : Nat} {a : Str} (TB : TabB X.base X.mg c P) (hcode : X.env.code = .ref c) (hm : (P, lq X) ∈ Tb) (hu : ∀ p ∈ Tb, p.1 = P → p.2 = lq X) (L : LamS2 X.N X.env.scope T)
    (hw : T.own = some a) (hd : T.par.defaults = [.Constant (.int 0) j p0]) (hk : T.par.kw_defaults = []) : PE X (.Lambda T.par T.body T.scope pos) (tLamV Tb (lq X) (lcl X T) T) := by
  refine ⟨fun pins s σ H Q I h => ?_⟩
  obtain ⟨hT, h⟩ := h
  refine PySem.W.kdv_lam (by rw [hd]; rfl) hk ?_
  rw [hd]
  have p0 := (pe_int (X := X) (i := 0) (j := j) (pos := p0)).run pins s σ H (fun v H1 => v = .int 0 ∧ H1 = H) I ⟨rfl, rfl⟩
  refine PySem.W.kdv_all1 (wpAny_mono p0 (fun v s1 ⟨x, H1, I1, r1, ex, eH⟩ => PySem.W.kdv_all0 ?_) fun _ _ z => z)
  subst ex eH
  rw [makeFunction_eq]
  simp only [List.zip_nil_right, List.filterMap_nil, List.isEmpty_nil, List.isEmpty_cons, if_true, pure_bind, Bool.false_eq_true, if_false]
  refine wpAny_bind (wpAny_newTextTuple ?_)
  have sz : s1.heap.objs.size ≤ s1.heap.objs.size := Nat.le_refl _
  have hg : (s1.heap.push (PySem.W.kdv_tup [v])).get? s1.heap.objs.size = some (PySem.W.kdv_tup [v]) := Heap.get?_push_size _ rfl
  have I2 : Inv X pins σ (upd H1 s1.heap.objs.size (.tup [.int 0])) { s1 with heap := s1.heap.push (PySem.W.kdv_tup [v]), toks := s1.toks } :=
    I1.laid (t' := s1.toks) (fun b o e => Heap.get?_push_of_some _ e) sz ⟨by show 1 ≤ sizeLine; decide, [v], .cons r1 .nil, ⟨_, hg, rfl, _, rfl⟩⟩
  have nF : H1 s1.heap.objs.size = none := I1.hok.fresh sz
  have sN : ∀ b o, H1 b = some o → (upd H1 s1.heap.objs.size (.tup [.int 0])) b = some o := fun b o e => by
    rw [upd_ne (ne_of_none e nF)]
    exact e
  exact tail_makeV I2 TB hcode hm hu (hT.ext sN) (L.has I.ok) fun f c' H3 s' I3 e3 T3 h1 h2 => ⟨.ref f, H3, I3, rfl, h H3 f ((ExtN.of sN).trans e3) T3 ⟨c', _, h1, h2, .inr ⟨a, _, hw, rfl, e3 _ _ upd_same (fun _ z => nomatch z)⟩⟩⟩
theorem pe_lamV {par : Arguments} {body : Expr} {scope : Scope} {Tb : List (Addr × Str)} {c P : Addr} {pos : Pos} (TB : TabB X.base X.mg c P) (hcode : X.env.code = .ref c) (hm : (P, lq X) ∈ Tb) (hu : ∀ p ∈ Tb, p.1 = P → p.2 = lq X) (L : LamS2 X.N X.env.scope ⟨par, body, scope, none⟩)
    (hdef : defaultsOf par X.env = ([], []) := by rfl) : PE X (.Lambda par body scope pos) (tLamV Tb (lq X) (lcl X ⟨par, body, scope, none⟩) ⟨par, body, scope, none⟩) := pe_lamV0 (T := ⟨par, body, scope, none⟩) TB hcode hm hu L rfl hdef
theorem pe_lamD {par : Arguments} {body : Expr} {scope : Scope} {Tb : List (Addr × Str)} {c P : Addr} {pos p0 : Pos} {j : Nat} {a : Str} (TB : TabB X.base X.mg c P) (hcode : X.env.code = .ref c) (hm : (P, lq X) ∈ Tb) (hu : ∀ p ∈ Tb, p.1 = P → p.2 = lq X) (L : LamS2 X.N X.env.scope ⟨par, body, scope, some a⟩)
    (hd : par.defaults = [.Constant (.int 0) j p0] := by rfl) (hk : par.kw_defaults = [] := by rfl) : PE X (.Lambda par body scope pos) (tLamV Tb (lq X) (lcl X ⟨par, body, scope, some a⟩) ⟨par, body, scope, some a⟩) := pe_lamD0 (T := ⟨par, body, scope, some a⟩) TB hcode hm hu L rfl hd hk
end
end OwnR

set_option Elab.async false
set_option linter.all false
set_option maxRecDepth 100000
set_option maxHeartbeats 2000000
/-! Lambdas that stand as values: called, and handed to a def that calls them. -/
namespace OwnR
open PySem PySem.Spec PyProof.Rows L2 LamX
section
variable {X : Cx} {pins : List (Addr × Obj)} {σ : L2.St} {H HZ : Hp} {s s1 : Shared}
/-- the lambda's context, entered at s1 from the frames outer; its maker stood so at s -/
theorem lam_startV {A : Around} {outer : List Env} {E : XK} {T : LamT} {f c' : Addr} {h₁ : Heap} {tk : Nat} {bs : List (Str × Value)} (I : Inv X pins σ H s) (L : LamS2 X.N X.env.scope T) (e0 : Env0 X.prog X.w X.K X.mg X.base A outer s1 HZ) (hd : A.handled = none)
    (un : Un (frs X.stack) [] H HZ s.heap s1.heap) (ns : h₁.Ns s1.heap.objs.size fun y => bs.reverse.lookup y) (kp : ∀ b o, s1.heap.get? b = some o → h₁.get? b = some o) :
    Inv (lamCx X A outer s1 HZ E T.scope f c') [] σ HZ { s1 with heap := h₁, toks := tk } := by
  have hasC := L.has I.ok
  have up : ∀ {y c}, (lcl X T).lookup y = some c → X.env.cells.lookup y = some c := fun {y c} e => by
    rcases cloFrom_mem (PySem.mem_of_lookup e) with m | ⟨g1, g2⟩
    · exact absurd m (by simp)
    · obtain ⟨d, hcd⟩ := hasC _ g1 rfl
      have hcd : X.env.cells.lookup y = some d := hcd
      rw [hcd] at g2
      rw [hcd, g2]
      rfl
  have down : ∀ {y}, T.scope.names.lookup y = some .free → ∃ c, (lcl X T).lookup y = some c := fun {y} hl => mem_lookup (cloFrom_has (cells := X.env.cells) (acc := []) (show (y, NameKind.free) ∈ T.scope.names from PySem.mem_of_lookup hl))
  have stays : ∀ {c : Addr} {v : Option Value}, H c = none → s.heap.IsCell c v → h₁.IsCell c v := fun {c v} n ⟨o, ho, hdt⟩ =>
    let ⟨sl, q⟩ := un.any ho n (by simp)
    ⟨{ o with slots := sl }, kp _ _ q, hdt⟩
  have no : ∀ b : Addr, ¬ b ∈ (lamCx X A outer s1 HZ E T.scope f c').ex := fun b z => nomatch (show b ∈ ([] : List Addr) from z)
  exact
    { ok :=
        { mod := e0.mod, kind := L.kind, glob := rfl, blt := rfl, above := Nat.le_refl _
          inj := fun y z c e1 e2 => I.ok.inj y z c (up e1) (up e2)
          has := fun y hy => by
            rcases (show T.scope.names.lookup y = some .cell ∨ T.scope.names.lookup y = some .free from hy) with q | q
            · exact absurd rfl (L.cell _ (PySem.mem_of_lookup q))
            · exact down q
          cab := fun y c z => nomatch (show false = true from z)
          hd := fun _ => hd, frames := Around.frames_deeper e0.frames, stk := .inr ⟨rfl, rfl⟩
          exf := fun b z => absurd z (no b), bs := e0.bs, bsz := e0.bsz, noex := fun b _ _ => no b, exfs := fun b z => absurd z (no b), funs := e0.funs, frf := e0.frf }
      os := rfl, bare := e0.bare, base := Un.kept kp
      loc := ⟨_, ns, fun i y v e1 e2 e3 => by
        rcases (show Vis T.scope y from e3) with k | k | k
        · exact absurd (List.mem_of_getElem? (show X.N[i]? = some y from e1)) (L.loc _ (PySem.mem_of_lookup k) rfl)
        · exact absurd rfl (L.cell _ (PySem.mem_of_lookup k))
        · obtain ⟨m, hn, hl⟩ := I.loc
          have vis := L.free _ (PySem.mem_of_lookup k) rfl
          obtain ⟨u, r, q⟩ := hl i y v e1 e2 (vis.elim (fun z => .inr (.inl z)) fun z => .inr (.inr z))
          obtain ⟨c2, h2⟩ := down k
          refine ⟨u, r, .inr ⟨.inr k, c2, h2, ?_⟩⟩
          rcases q with ⟨k', _⟩ | ⟨_, c3, e', z⟩
          · have k' : X.env.scope.names.lookup y = some .local := k'
            rcases vis with k2 | k2
            · rw [show X.env.scope.names.lookup y = _ from k2] at k'; cases k'
            · rw [show X.env.scope.names.lookup y = _ from k2] at k'; cases k'
          · have e'' := e'.symm.trans (up h2)
            cases e''
            exact stays (I.freeC y _ e') z⟩
      cell := fun y c e => let ⟨w', z⟩ := I.cell y c (up e); ⟨w', stays (I.freeC y c (up e)) z⟩
      free := e0.hok.fresh (Nat.le_refl _)
      freeC := fun y c e => by
        obtain ⟨v, o, ho, _⟩ := I.cell y c (up e)
        exact un.free c o ho (I.freeC y c (up e)) (by simp)
      pin := fun q hq => nomatch (show q ∈ ([] : List (Addr × Obj)) from hq)
      hok := e0.hok.kept kp, len := I.len }
/-- what the lambda's body reads, in its own context -/
def LamPE (X : Cx) (T : LamT) (k : Nat) (t : XK → TE) : Prop := ∀ (A : Around) (outer : List Env) (s : Shared) (H : Hp) (E : XK) (f c' : Addr), Room k (A.deeper (lamEnv X T.scope s.heap.objs.size f c')) → PE (lamCx X A outer s H E T.scope f c') T.body (t E)
/-- f() at s1; its maker stood so at s -/
theorem lam_run {A : Around} {outer : List Env} {E : XK} {T : LamT} {f : Addr} {k : Nat} {t : XK → TE} {Q : VK} (I : Inv X pins σ H s) (L : LamS2 X.N X.env.scope T) (B : LamB T) (e0 : Env0 X.prog X.w X.K X.mg X.base A outer s1 HZ) (hr : Room (k + 1) A)
    (un : Un (frs X.stack) [] H HZ s.heap s1.heap) (hb : LamPE X T k t) (hv : LamV (lq X) (lcl X T) HZ f T) (h : t E σ HZ Q) :
    codeAny (model X.prog X.w) A (.call (.ref f) ⟨[], []⟩) (L2.CR (L2.CX X.prog X.w) outer X.prog X.w HZ s1 Q E) s1 := by
  obtain ⟨c', dV, hf, hc, hD⟩ := hv
  obtain ⟨⟨doc, pm, ctv, of⟩, _, _⟩ := e0.hok f _ hf
  obtain ⟨⟨oc, vs, tq, hoc, hdc, hvc⟩, _, _⟩ := e0.hok c' _ hc
  have lim : s1.heap.NoLimit := e0.mod.nolimit.keeps fun b o e => (e0.bs b o e).1
  refine PySem.W.kla_callFunE hr.depth of rfl L.co L.gen rfl ⟨c', oc, vs, tq, rfl, hoc, hdc, hvc⟩ ?_
  have go : ∀ (bs : List (Str × Value)), (∀ y ∈ bs, T.scope.names.lookup y.1 = some .local) →
      wpAny (model X.prog X.w) A.in1 (newFunctionEnv T.scope mainGlobals (lcl X T) bs (lq X ++ ".<locals>.") (some f) (.ref c') none builtinsNs)
        (fun env s₂ => s₂.heap.NoLimit ∧ codeAny (model X.prog X.w) A (.expr T.body env) (L2.CR (L2.CX X.prog X.w) outer X.prog X.w HZ s1 Q E) s₂) (fun e s' => L2.CR (L2.CX X.prog X.w) outer X.prog X.w HZ s1 Q E (.error e) s') s1 := fun bs hbs => by
    refine wpAny_newFunctionEnv L.cell hbs (fun h₁ hns hsb => ⟨lim.fresh _ hsb, ?_⟩) L.kind
    show codeAny _ _ (.expr T.body (lamEnv X T.scope s1.heap.objs.size f c')) _ _
    have kp : ∀ b o, s1.heap.get? b = some o → h₁.get? b = some o := fun b o e => hsb.extBut b o (Nat.ne_of_lt (Heap.lt_size e)) (Heap.get?_push_of_some _ e)
    have J := lam_startV (E := E) (f := f) (c' := c') (tk := s1.toks + bs.length) I L e0 hr.hd un hns kp
    exact PySem.W.kla_codeExpr (wpAny_mono ((hb A outer s1 HZ E f c' (hr.deeper _)).run [] _ _ HZ Q J h) (fun v s' hq => let ⟨w', H', J', rv, q⟩ := hq; ⟨w', H', J'.os, J'.bare, J'.base, J'.hok, rv, q⟩) fun e s' hq => hq)
  unfold LamB at B
  rcases hD with ⟨ho, rfl⟩ | ⟨a, ta, ho, rfl, hta⟩
  · rw [ho] at B
    rw [B]
    exact wpAny_pure (go [] fun y hy => nomatch hy)
  · rw [ho] at B
    obtain ⟨k', b1, b2⟩ := B (lq X) (lcl X T) ta doc pm (.ref c') ctv
    obtain ⟨_, its, ri, oT, hoT, hcl, n, hdT⟩ := (show ObjOk X.prog X.w HZ s1.heap ta (.tup [.int 0]) from e0.hok ta _ hta)
    cases ri with
    | @cons _ v _ _ rv rn =>
      cases rn
      refine BindsTo.of_defaults (fd := PySem.W.kdv_fn "<lambda>" (lq X) T.par (.expr T.body) T.scope (lcl X T) (.ref ta) doc pm (.ref c') ctv) (binds := [(a, v)]) rfl hoT hdT b1 (b2 v) _ _ _ _ ?_
      refine go [(a, v)] fun y hy => ?_
      rw [List.mem_singleton.mp hy]
      exact L.par a ho
end
end OwnR
namespace OwnR
open PySem PySem.Spec PyProof.Rows L2 LamX
/-- the def that calls what it got (a: its parameter); TT: what it makes of the lambda's reading -/
def GivesV (P : Program) (w : World) (K : PySem.W.Frag) (mg : Str → Option Value) (base : Heap) (A : Around) (stack : List Env) (Ng : List Str) (x : Str) (sg : Scope) (g : Addr) (cdg : Value) (bg : List Stmt) (a : Str) (TT : (XK → Hp → VK → Prop) → Hp → VK → Prop) : Prop :=
  ∀ (f : Addr) (s : Shared) (H : Hp) (Q : VK) (Held : Hp → Prop) (tl : XK → Hp → VK → Prop),
    (∀ (W : WX) (pn : List (Addr × Obj)) (xe : Value → Shared → Prop) (E : XK) (p1 p2 : Pos), Takes ((cxOf L2.CX0 P w K mg base Ng x sg g cdg A stack s H L2.E0).tr pn xe) W → (∀ cls d σ' H', σ'.length = Ng.length → E cls d H' → W cls d σ' H') →
      PE ((cxOf L2.CX0 P w K mg base Ng x sg g cdg A stack s H L2.E0).tr pn xe) (.Call (.Name a p1) [] [] p2) (fun σZ HZ Q => σZ[0]? = some (some (.ref f)) ∧ Held HZ ∧ tl E HZ Q)) → Held H → TT tl H Q →
    ∃ t, PSs (cxOf L2.CX0 P w K mg base Ng x sg g cdg A stack s H L2.E0).nox bg t ∧ t { nx := fun _ H' => Q .non H', rt := Q } (L2.start Ng [.ref f]) H
/-- what is told of the def that calls -/
structure Teller (K : PySem.W.Frag) (mg : Str → Option Value) (x a : Str) (g : Addr) (Ng : List Str) (bg : List Stmt) (sg : Scope) (cdv : Value) : Prop where
  mgx : mg x = some (.ref g)
  k : PySem.W.keepIn K (.ref g) = true
  lk : ∃ (oc : Value) (od : Option Addr) (pg : Arguments) (dV kV doc pm ct : Value) (an : Option Addr) (osl : Array (Option Value)), K.lookup g = some ⟨oc, od, .func (PySem.W.fnOf x x pg bg sg dV kV doc pm an cdv ct), osl⟩ ∧ L2.Binds K (PySem.W.fnOf x x pg bg sg dV kV doc pm an cdv ct) [a] []
  cd : PySem.W.codeIn K cdv x = true
  sc : FnScope Ng [a] sg
  n0 : Ng[0]? = some a
  vis : Vis sg a
section
variable {X : Cx} {pins : List (Addr × Obj)} {σ : L2.St} {H : Hp} {s : Shared}
/-- told(f), called where the maker stands at s -/
theorem told_run {x a : Str} {g f : Addr} {Ng : List Str} {bg : List Stmt} {sg : Scope} {cdv : Value} {k : Nat} {T : LamT} {t : XK → TE} {TT : (XK → Hp → VK → Prop) → Hp → VK → Prop} {Q : VK} (I : Inv X pins σ H s) (W : Teller X.K X.mg x a g Ng bg sg cdv)
    (hG : GivesV X.prog X.w X.K X.mg X.base X.A X.stack Ng x sg g cdv bg a TT) (hr : Room (k + 2) X.A) (L : LamS2 X.N X.env.scope T) (B : LamB T) (hb : LamPE X T k t) (hv : LamV (lq X) (lcl X T) H f T) (h : TT (fun E H' Q' => t E σ H' Q') H Q)
    (hd : (a == ("__debug__" : Str)) = false) (hcd : (a == ("__classdict__" : Str)) = false) :
    codeAny (model X.prog X.w) X.A (.call (.ref g) ⟨[.ref f], []⟩) (L2.CR L2.CX0 X.stack X.prog X.w H s Q L2.E0) s := by
  obtain ⟨oc, od, pg, dV, kV, doc, pm, ct, an, osl, lk, hbind⟩ := W.lk
  refine run_ofS (N := Ng) (ps := [a]) (us := [.ref f]) (vs := [.ref f]) lk W.cd W.sc hr I.env0 (hbind s [.ref f] I.kIn rfl) (.cons rfl .nil) rfl fun hr' => ?_
  have act : ∀ (Wx : WX) (pn : List (Addr × Obj)) (xe : Value → Shared → Prop) (E : XK) (p1 p2 : Pos), Takes ((cxOf L2.CX0 X.prog X.w X.K X.mg X.base Ng x sg g cdv X.A X.stack s H L2.E0).tr pn xe) Wx → (∀ cls d σ' H', σ'.length = Ng.length → E cls d H' → Wx cls d σ' H') →
      PE ((cxOf L2.CX0 X.prog X.w X.K X.mg X.base Ng x sg g cdv X.A X.stack s H L2.E0).tr pn xe) (.Call (.Name a p1) [] [] p2) (fun σZ HZ Q => σZ[0]? = some (some (.ref f)) ∧ LamV (lq X) (lcl X T) HZ f T ∧ t E σ HZ Q) := by
    intro Wx pn xe E p1 p2 tk hW
    refine ⟨fun pinsZ sZ σZ HZ Q IZ hh => ?_⟩
    obtain ⟨hs, hvZ, ht⟩ := hh
    refine wpAny_Call_Name_kw (thn ((pe_var (pos := p1) (i := 0) W.n0 W.vis hd hcd).run pinsZ sZ σZ HZ (fun v H1 => v = .ref f ∧ H1 = HZ) IZ ⟨.ref f, hs, rfl, rfl⟩) fun u s2 ⟨v, H2, I2, r2, ev, eH⟩ => ?_)
    subst ev eH
    obtain rfl : u = Value.ref f := r2
    obtain ⟨c', dV', hf, _⟩ := id hvZ
    obtain ⟨⟨doc', pm', ctv', of⟩, _, _⟩ := I2.hok f _ hf
    refine PySem.W.callWith_F0 ⟨_, _, _, _, of⟩ ?_
    have rc := lam_run (E := E) (Q := Q) I L B I2.env0 hr' I2.base hb hvZ ht
    refine wpAny_call (codeAny_mono rc fun r s' hq => ?_)
    cases r with
    | error e => exact tk e s' (XE.of_call I2 (fun cls d H' h => hW cls d σZ H' I2.len h) hq)
    | ok fl =>
      cases fl with
      | ret u => exact I2.after hq
      | next => exact False.elim hq
      | brk => exact False.elim hq
      | cont => exact False.elim hq
  obtain ⟨t', ht', hq'⟩ := hG f s H Q (fun HZ => LamV (lq X) (lcl X T) HZ f T) (fun E H' Q' => t E σ H' Q') act hv h
  exact ⟨t', ht'.nox, hq'⟩
/-- told(e), e a lambda's value -/
def tTold (X : Cx) (k : Nat) (TT : (XK → Hp → VK → Prop) → Hp → VK → Prop) (te : TE) : TE := fun σ H Q => te σ H fun y H1 => ∃ (f : Addr) (T : LamT) (t : XK → TE), y = .ref f ∧ LamS2 X.N X.env.scope T ∧ LamB T ∧ LamPE X T k t ∧ LamV (lq X) (lcl X T) H1 f T ∧ TT (fun E H' Q' => t E σ H' Q') H1 Q
theorem pe_told {x a : Str} {g : Addr} {Ng : List Str} {bg : List Stmt} {sg : Scope} {cdv : Value} {k : Nat} {TT : (XK → Hp → VK → Prop) → Hp → VK → Prop} {e : Expr} {te : TE} {p pos : Pos} (W : Teller X.K X.mg x a g Ng bg sg cdv) (hg : Gl X x)
    (hG : GivesV X.prog X.w X.K X.mg X.base X.A X.stack Ng x sg g cdv bg a TT) (hr : Room (k + 2) X.A) (he : PE X e te) (hdb : (x == ("__debug__" : Str)) = false := by decide) (hd : (a == ("__debug__" : Str)) = false := by decide) (hcd : (a == ("__classdict__" : Str)) = false := by decide)
    (h1 : starEach [e] X.env = (false, eval e X.env) :: starEach [] X.env := by rfl) (h2 : (backTo pos (starEach [] X.env)).any (·.1) = false := by rfl) :
    PE X (.Call (.Name x p) [e] [] pos) (tTold X k TT te) := by
  refine ⟨fun pins s σ H Q I h => ?_⟩
  have ha : PA X [e] (tCons te tNil) := pa_cons he pa_nil h1
  refine wpAny_Call_Name_kw (ld_glob I hg W.mgx ?_ hdb)
  refine PySem.W.callWith_K (h₀ := X.base) I.ok.mod.kin W.k (thn (ha.run pos pins s σ H (fun vs H1 => ∃ (f : Addr) (T : LamT) (t : XK → TE), vs = [.ref f] ∧ LamS2 X.N X.env.scope T ∧ LamB T ∧ LamPE X T k t ∧ LamV (lq X) (lcl X T) H1 f T ∧ TT (fun E H' Q' => t E σ H' Q') H1 Q) I ?_) fun us s1 hs => ?_) h1 h2
  · show te σ H _
    have key : ∀ (Q1 Q2 : VK), Q1 = Q2 → te σ H Q1 → te σ H Q2 := fun _ _ z y => z ▸ y
    refine key _ _ (funext fun y => funext fun H1 => propext ⟨fun ⟨f, T, t, e, r⟩ => ⟨f, T, t, by rw [e], r⟩, fun ⟨f, T, t, e, r⟩ => ⟨f, T, t, by injection e, r⟩⟩) h
  · obtain ⟨vs, H1, I1, r, f, T, t, rfl, L, B, hb, hv, hT⟩ := hs
    obtain ⟨u, rfl, ru⟩ := r.one
    obtain rfl : u = Value.ref f := ru
    refine ⟨I1.kIn, wpAny_call (codeAny_mono (told_run I1 W hG hr L B hb hv hT hd hcd) fun r s2 hq => ?_)⟩
    cases r with
    | error e => exact (show False from hq).elim
    | ok fl =>
      cases fl with
      | ret u => exact I1.after hq
      | next => exact False.elim hq
      | brk => exact False.elim hq
      | cont => exact False.elim hq
end
end OwnR

set_option Elab.async false
set_option linter.all false
set_option maxRecDepth 100000
set_option maxHeartbeats 2000000
/-! Caught errors of own classes, with a dict of their own or without one. -/
namespace OwnR
open PySem PySem.Spec PyProof.Rows L2 LamX
/-- what an own class of errors says of itself -/
structure ErrC (K : PySem.W.Frag) (C : Addr) : Prop where
  cl : (PySem.W.clsIn K C).isSome = true
  ga : PySem.W.findIn K (.ref C) "__getattribute__" = some (some (.builtin "BaseException.__getattribute__"))
  gg : PySem.W.findIn K (.ref C) "__getattr__" = some none
  sub : PySem.W.subIn K (.ref C) (.type "BaseException") = some true
  hd : PySem.W.hasDictIn K C = true
  cat : PySem.W.findIn K (.ref C) "__class__" = some (some (.builtin "object.__class__"))
  sp : PySem.W.specialIn K (.builtin "object.__class__") "__get__" = some (some (.builtin "getset_descriptor.__get__"))
  tk : PySem.W.takesIn K (.builtin "object.__class__") = some true
  mro : PySem.W.mroIn K C (.type "object") = some true
  ix : PySem.W.findIn K (.ref C) "index" = some none
  nm : PySem.W.findIn K (.ref C) "name" = some none
theorem ErrC.xf {K : PySem.W.Frag} {C : Addr} (h : ErrC K C) : XfC K C := ⟨h.ga, h.gg, h.sub, h.hd⟩
/-- the error's own dict, if it has one, is known -/
def DictK (H : Hp) (d : Option Addr) : Prop := d = none ∨ ∃ dd fs, d = some dd ∧ H dd = some (.xd fs)
theorem DictK.ext {H H' : Hp} {d : Option Addr} (h : DictK H d) (e : ExtN H H') : DictK H' d := by
  rcases h with h | ⟨dd, fs, h1, h2⟩
  · exact .inl h
  · exact .inr ⟨dd, fs, h1, e _ _ h2 (fun _ z => nomatch z)⟩
/-- isinstance(e, c), e the error that the suite holds -/
def rIsV (K : PySem.W.Frag) (D a : Addr) (d : Option Addr) : List V → Hp → VK → Prop := fun xs H Q => ∃ (c : V) (cv : Value) (b : Bool), xs = [.ref a, c] ∧ (∀ u, RelV c u → u = cv) ∧ PySem.W.kitOne K (.ref D) cv = some b ∧ DictK H d ∧ Q (.bl b) H
theorem call_isV {X : Cx} {a D : Addr} {d : Option Addr} {oe : Obj} {pn : List (Addr × Obj)} (C : ErrC X.K D) (hz : Zc (.ref D) d oe) (hf : ∃ vs, oe.data = .fields vs) : CallR (X.suite a ((a, oe) :: pn)) (.builtin "isinstance") (rIsV X.K D a d) := by
  intro pins s σ H xs us Q I r h
  obtain ⟨c, cv, b, rfl, hcv, e, hd, q⟩ := h
  obtain ⟨u1, ur, rfl⟩ : ∃ u1 ur, us = u1 :: ur := by cases r; exact ⟨_, _, rfl⟩
  cases r with
  | cons rx rr =>
    obtain ⟨u2, rfl⟩ : ∃ u2, ur = [u2] := by
      cases rr with
      | cons _ rr => cases rr; exact ⟨_, rfl⟩
    cases rr with
    | cons rt _ =>
      cases rx
      have ec := hcv _ rt
      subst ec
      obtain ⟨hget, _⟩ := I.pin (a, oe) (List.mem_append.mpr (.inl List.mem_cons_self))
      obtain ⟨vs, hv⟩ := hf
      obtain ⟨oc, od, oda, osl⟩ := oe
      obtain ⟨h1, h2⟩ := hz
      dsimp only at h1 h2 hv
      subst h1 h2 hv
      rcases hd with hd | ⟨dd, fs, hd, hdd⟩
      · subst hd
        exact PySem.W.kia_one (PySem.W.kitx_exc (od := none) C.cl C.ga C.gg C.sub C.cat C.sp C.tk C.mro) I.kIn ⟨hget, rfl, rfl, trivial⟩ e (fun z => nomatch z) fun tk => ⟨.bl b, H, I.kept (t' := tk) fun _ _ z => z, rfl, q⟩
      · subst hd
        obtain ⟨mA, hns, _⟩ := (show ObjOk X.prog X.w H s.heap dd (.xd fs) from I.hok dd _ hdd)
        obtain ⟨o1, ho1, _⟩ := lookIn_ns hns
        exact PySem.W.kia_one (PySem.W.kitx_exc (od := some o1) C.cl C.ga C.gg C.sub C.cat C.sp C.tk C.mro) I.kIn ⟨hget, rfl, rfl, ho1⟩ e (fun z => nomatch z) fun tk => ⟨.bl b, H, I.kept (t' := tk) fun _ _ z => z, rfl, q⟩
/-! ### list.count of flat things -/
def rCntV (K : PySem.W.Frag) : V → List V → Hp → VK → Prop := fun x xs H Q => ∃ (p : Addr) (ys : List V) (y : V), x = .ref p ∧ xs = [y] ∧ SqL K H p ys ∧ flatV y = true ∧ ys.all flatV = true ∧ Q (.int ((ys.countP fun z => eqV z y : Nat) : Int)) H
theorem countU {y : V} : ∀ {ys : List V} {us : List Value}, Vals ys us → ys.all flatV = true → us.countP (eqU y) = ys.countP fun z => eqV z y
  | _, _, .nil, _ => rfl
  | z :: ys, u :: us, .cons r t, f => by
    obtain ⟨f1, f2⟩ := Bool.and_eq_true_iff.mp f
    rw [List.countP_cons, List.countP_cons, countU t f2, eqU_of r f1]
theorem mt_countV {X : Cx} : MtR X "list.count" (rCntV X.K) := by
  intro pins s σ H x xs v us Q I rx rxs h
  obtain ⟨p, ys, y, rfl, rfl, hs, fy, fys, q⟩ := h
  cases (show v = Value.ref p from rx)
  obtain ⟨u, rfl, ru⟩ := rxs.one
  obtain ⟨its, rv, ⟨⟨cls, dd, data, sl⟩, n, ho, hc, hdn, hd⟩, hlen⟩ := I.list hs
  dsimp only at hc hd
  subst hc hd
  have key := SeqAt.list_countAt p its.toArray n dd sl u (eqU y)
  refine call_meets PySem.F.slot_list_count ⟨_, ho, rfl⟩ PySem.F.entry_list_count (PySem.F.args_list_count_2 _ _) key ⟨ho, fun w hw => mem_eqAt ru fy rv fys w (by simpa using hw), ?_⟩
  refine ⟨.int ((its.toArray.toList.countP (eqU y) : Nat) : Int), H, I.tok _, ⟨s.toks, rfl⟩, ?_⟩
  rw [show its.toArray.toList = its by simp, countU rv fys]
  exact q
end OwnR

set_option Elab.async false
set_option linter.all false
/-! facts of own errors' classes from what k_is answers -/
namespace OwnR
open PySem PySem.Spec L2
section
variable {K : PySem.W.Frag} {C D : Addr} {b : Bool}
theorem kit_tyE {T : String} (h1 : PySem.W.kitMeta T = true) (h : PySem.W.subIn K (.ref C) (.type T) = some b) : PySem.W.kitOne K (.ref C) (.type T) = some b := by
  show (if (Value.ref C == Value.type T) = true then some true else PySem.W.kitCls K (.ref C) (.type T)) = some b
  have e : (Value.ref C == Value.type T) = false := by
    refine Bool.eq_false_iff.mpr fun q => ?_
    have := beq_iff_eq.mp q
    cases this
  rw [e]
  show (if PySem.W.kitMeta T = true then PySem.W.subIn K (.ref C) (.type T) else none) = some b
  rw [if_pos h1, h]
theorem kit_refE (hs : PySem.W.subIn K (.ref C) (.ref C) = some true) (c : PySem.W.isClsIn K D = true) (t : PySem.W.typeIn K (.ref D) = some (.type "type")) (h : PySem.W.subIn K (.ref C) (.ref D) = some b) : PySem.W.kitOne K (.ref C) (.ref D) = some b := by
  show (if (Value.ref C == Value.ref D) = true then some true else PySem.W.kitCls K (.ref C) (.ref D)) = some b
  by_cases q : (Value.ref C == Value.ref D) = true
  · rw [if_pos q]
    have e := Value.ref.inj (beq_iff_eq.mp q)
    subst e
    rw [hs] at h
    exact h
  · rw [if_neg q]
    have c2 : (PySem.W.clsIn K D).isSome = true := c
    have e2 : ((PySem.W.clsIn K D).isSome && PySem.W.typeIn K (.ref D) == some (.type "type")) = true := by rw [c2, t] <;> rfl
    show (if ((PySem.W.clsIn K D).isSome && PySem.W.typeIn K (.ref D) == some (.type "type")) = true then PySem.W.subIn K (.ref C) (.ref D) else none) = some b
    rw [if_pos e2, h]
end
end OwnR

set_option Elab.async false
set_option linter.all false
set_option maxRecDepth 100000
set_option maxHeartbeats 2000000
namespace Sl
open PySem PySem.Spec L2 OwnR LamX
section
variable {P : Program} {w : World} {K : PySem.W.Frag} {mg : Str → Option Value} {base : Heap}
/-! ### is_number of anything -/
/-- a number within limits -/
def numB : V → Int → Int → Bool
  | .int i, lo, hi => decide (lo ≤ i) && decide (i ≤ hi)
  | _, _, _ => false
/-- what may be asked: a number, None, a bool, a text -/
def Plain (v : V) : Prop := (∃ i, v = .int i) ∨ v = .non ∨ (∃ b, v = .bl b) ∨ ∃ z, v = .str z
def spIsNumV : Sp := fun vs H Q _ => ∃ (v : V) (lo hi : Int), vs = [v, .int lo, .int hi] ∧ Plain v ∧ Q (.bl (numB v lo hi)) H
theorem ok_isNumV {f : Addr} {fd : FuncData} (F : Fun K "is_number" "is_number" sIsNumber f fd) (M : Mg mg) : FnOk P w K mg base CX0 1 f fd ["value", "least", "most"] spIsNumV := by
  refine F.ok scIsNumber (fun vs H Q E h => ?_) (fun cdv A outer s H vs Q E hr h => ?_)
  · obtain ⟨i, lo, hi, rfl, _⟩ := h
    rfl
  · obtain ⟨v, lo, hi, rfl, hv, k⟩ := h
    refine ⟨_, pss_one (ps_ret (pe_and (pe_callB call_isi (by rfl) M.isinstance boot_isinstance (pa_cons (pv 0) (pa_cons (pe_bltn (v := .ty "int") (by rfl) M.int boot_tInt rfl) pa_nil)))
      (pe_and (pe_not (pe_callB call_isi (by rfl) M.isinstance boot_isinstance (pa_cons (pv 0) (pa_cons (pe_bltn (v := .ty "bool") (by rfl) M.bool boot_tBool rfl) pa_nil))))
        (pe_one (pe_chain op_le op_le (pv 1) (pv 0) (pv 2)))))), ?_⟩
    rcases hv with ⟨i, rfl⟩ | rfl | ⟨b, rfl⟩ | ⟨z, rfl⟩
    · refine ⟨_, rfl, _, _, _, _, true, rfl, .ty _, .base (.int i), kit_ty (by decide +kernel), true, rfl, iteT ?_⟩
      refine ⟨_, rfl, _, _, _, _, false, rfl, .ty _, .base (.int i), kit_ty (by decide +kernel), false, rfl, true, rfl, iteT ?_⟩
      refine ⟨_, rfl, _, rfl, lo, i, rfl, rfl, _, rfl, ?_⟩
      have k : Q (.bl (decide (lo ≤ i) && decide (i ≤ hi))) H := k
      by_cases h1 : lo ≤ i
      · rw [decide_eq_true h1] at k ⊢
        exact iteT ⟨_, rfl, i, hi, rfl, rfl, by simpa using k⟩
      · rw [decide_eq_false h1] at k ⊢
        exact iteF (by simpa using k)
    · exact ⟨_, rfl, _, _, _, _, false, rfl, .ty _, .base .non, kit_ty (by decide +kernel), false, rfl, iteF k⟩
    · refine ⟨_, rfl, _, _, _, _, true, rfl, .ty _, .base (.bl b), kit_ty (by decide +kernel), true, rfl, iteT ?_⟩
      exact ⟨_, rfl, _, _, _, _, true, rfl, .ty _, .base (.bl b), kit_ty (by decide +kernel), true, rfl, false, rfl, iteF k⟩
    · exact ⟨_, rfl, _, _, _, _, false, rfl, .ty _, .base (.str z), kit_ty (by decide +kernel), false, rfl, iteF k⟩
/-- an own class of errors that is made with a text -/
structure ErrT (K : PySem.W.Frag) (mg : Str → Option Value) (x : Str) (C : Addr) : Prop where
  q : PySem.W.excIn K C [.type "ValueError", .type "Exception", .type "BaseException", .type "object"] "ValueError.__new__" = true
  g : mg x = some (.ref C)
  k : PySem.W.keepIn K (.ref C) = true
  b : PySem.W.subIn K (.ref C) (.type "BaseException") = some true
  t : PySem.W.typeIn K (.ref C) = some (.type "type")
theorem pmk_errT {X : Cx} {C : Addr} {x m : Str} {j : Nat} {p p2 pos : Pos} (e : ErrT X.K X.mg x C) (hg : Gl X x) (hdb : (x == ("__debug__" : Str)) = false := by decide) : PMk X (.Call (.Name x p) [.Constant (.str m) j p2] [] pos) (fun _ H Q => Q (.ref C) none H) :=
  pmk_own PySem.F.excBase_ValueError e.q e.g e.k (raises_own e.b e.t) hg hdb
end
end Sl

set_option Elab.async false
set_option linter.all false
set_option maxRecDepth 100000
set_option maxHeartbeats 2000000
namespace Sl
open PySem PySem.Spec L2 OwnR LamX
section
variable {P : Program} {w : World} {K : PySem.W.Frag} {mg : Str → Option Value} {base : Heap}
/-! ### an error of an own class with one field -/
def spEInit (C : Addr) (fld : Str) : Sp := fun vs H Q _ => ∃ (a : Addr) (v : V), vs = [.ref a, v] ∧ H a = some (exo a C none) ∧ ∀ dx, H dx = none → dx ≠ a → Q .non (upd (upd H dx (exd dx [(fld, v)])) a (exo a C (some dx)))
/-- an own class of errors with an __init__ of its own -/
structure ErrF (P : Program) (w : World) (K : PySem.W.Frag) (mg : Str → Option Value) (base : Heap) (x fld : Str) (C : Addr) : Prop where
  T : OexC K C
  g : mg x = some (.ref C)
  init : ∃ fI fd ps, PySem.W.findIn K (.ref C) "__init__" = some (some (.ref fI)) ∧ PySem.W.typeIn K (.ref fI) = some (.type "function") ∧ Binds K fd ps [] ∧ FnOk P w K mg base CX0 1 fI fd ps (spEInit C fld)
def nSInit : List Str := ["self", "index"]
theorem scSInit : FnScope nSInit ["self", "index"] (defScope sUnknownSectionInit) := ⟨rfl, rfl, rfl, by decide +kernel, rfl, by decide +kernel, by decide +kernel⟩
theorem ok_sInit {f C : Addr} {fd : FuncData} (F : Fun K "__init__" "UnknownSection.__init__" sUnknownSectionInit f fd) (T : OexC K C) (hno : PySem.W.findIn K (.ref C) "index" = some none) : FnOk P w K mg base CX0 1 f fd ["self", "index"] (spEInit C "index") := by
  refine F.ok scSInit (fun vs H Q E h => ?_) (fun cdv A outer s H vs Q E hr h => ?_)
  · obtain ⟨a, v, rfl, _⟩ := h
    rfl
  · obtain ⟨a, v, rfl, ha, k⟩ := h
    have nd := scSInit.nd
    refine ⟨_, pss_one (ps_ost (pv 0) (pv 1)), ?_⟩
    exact ⟨_, rfl, _, rfl, a, C, rfl, T, hno, .inl ⟨ha, fun dx h1 h2 => k dx h1 h2⟩⟩
/-- the error that is raised with v -/
def FldE (C : Addr) (fld : Str) (v : V) (H : Hp) (E : XK) : Prop := ∀ H' d fs, Same H H' → H' d = some (.xd fs) → fs.lookup fld = some v → E (.ref C) (some d) H'
theorem fld_mk {C : Addr} {fld : Str} {v : V} {H H1 : Hp} {E : XK} (k : FldE C fld v H E) (s : Same H H1) : ∀ a, H1 a = none → spEInit C fld (.ref a :: ([v] ++ [])) (upd H1 a (exo a C none))
    (fun r H2 => r = .non ∧ ∃ (d : Addr) (fs : List (Str × V)), H2 a = some (exo a C (some d)) ∧ H2 d = some (exd d fs) ∧ H1 d = none ∧ E (.ref C) (some d) (upd (del H2 a) d (.xd fs))) (fun _ _ _ => False) := by
  intro a ha
  refine ⟨a, v, rfl, upd_same, fun dx hdx ne => ⟨rfl, dx, [(fld, v)], upd_same, ?_, ?_, ?_⟩⟩
  · rw [upd_ne ne, upd_same]
  · rw [upd_ne ne] at hdx
    exact hdx
  · have hdx1 : H1 dx = none := by rw [upd_ne ne] at hdx; exact hdx
    refine k _ dx [(fld, v)] (fun b o e => ?_) upd_same (by simp [List.lookup])
    have nb : b ≠ dx := fun z => by rw [z] at e; have := s _ _ e; rw [hdx1] at this; cases this
    have na : b ≠ a := fun z => by rw [z] at e; have := s _ _ e; rw [ha] at this; cases this
    rw [upd_ne nb, del_ne na, upd_ne na, upd_ne nb, upd_ne na]
    exact s _ _ e
/-! ### widened, beyond the road -/
def spWidU0 (C CS : Addr) : Sp := fun vs H Q E => ∃ (p t : Addr) (secs : List Sec) (ixs : List Nat) (j n : Nat), vs = [.ref p, .ref t] ∧ H t = some (.tup (ixs.map fun n => V.int ((n : Nat) : Int))) ∧ RoadAt C H p secs ∧ SecsOk secs ∧ ixs[j]? = some n ∧ secs.length ≤ n ∧ (∀ (i m : Nat), i < j → ixs[i]? = some m → m < secs.length) ∧ FldE CS "index" (.int ((n : Nat) : Int)) H E
abbrev spWidU (C CS : Addr) : Sp := fun vs H Q E => ∃ ws rest, vs = ws ++ rest ∧ ws.length = (["self"] : List Str).length ∧ rest.length ≤ sizeLine ∧ ∀ p, H p = Option.none → spWidU0 C CS (ws ++ [V.ref p]) (upd H p (.tup rest)) Q E
theorem ok_widenedU {f fB C CS lp kp : Addr} {fd dB : FuncData} (F : Fun K "widened" "Road.widened" sRWidened f fd) (M : Mg mg) (R : RoadT K w mg C lp kp) (W : ErrF P w K mg base "UnknownSection" "index" CS)
    (BB : Fb K mg "is_number" sIsNumber ["value", "least", "most"] fB dB) (GB : FnOk P w K mg base CX0 1 fB dB ["value", "least", "most"] spIsNumber) : FnR P w K mg base (L2.CX P w) 5 f (spWidU C CS) := by
  obtain ⟨oc, od, kV, doc, pm, an, cdv, ct, osl, rfl, lk, hcd⟩ := F.ex
  obtain ⟨fI, dI, ps, w1, w2, w3, w4⟩ := W.init
  refine StX.fn_star lk hcd scWid StX.cxUp (StX.bind_star1 (p1 := "self") (pv := "indexes") (B := fun xs => bindArgs (PySem.W.fnOf "widened" "Road.widened" (defArgs sRWidened) (defBody sRWidened) (defScope sRWidened) .none kV doc pm an cdv ct) ⟨xs, []⟩) (fun _ => rfl) (fun _ _ _ => rfl)) fun A outer s H vs Q E hr h => ?_
  obtain ⟨p, t, secs, ixs, j, n, rfl, ht, ⟨dx, at_, u, hp, ⟨ts, a2, a3, a4⟩, hu⟩, S, hj, hn, hlt, k⟩ := h
  have nd := scWid.nd
  have hr1 : Room 1 (A.deeper (PyProof.Rows.envOfC "Road.widened" (defScope sRWidened) s.heap.objs.size f cdv)) := hr.mono (by decide)
  have hr2 : Room 2 (A.deeper (PyProof.Rows.envOfC "Road.widened" (defScope sRWidened) s.heap.objs.size f cdv)) := hr.mono (by decide)
  refine ⟨_, pss_cons (ps_for (passes_of rfl) rfl (pi_tup (pv 1)) (pg_name (i := 2) nd rfl (.inl rfl))
      (pss_one (ps_if (pt_not (pt_val (pe_call GB hr1 (by rfl) BB.at_ BB.fn.kp BB.bd .nil pass0 (pa_cons (pv 2) (pa_cons pe_int (pa_cons (pe_op op_sub (pe_callB call_len_seq (by rfl) M.len boot_len (pa_cons (pe_fld (pv 0) rfl) pa_nil)) pe_int) pa_nil))))))
        (pss_one (ps_raise rfl (takes_of rfl rfl rfl rfl) (pmk_oex W.T w1 w2 w4 hr2 w3 .nil pass0 (by rfl) W.g (pa_cons (pv 2) pa_nil)))) pss_nil))) pss_never, ?_⟩
  have few := S.few
  have hts : (ts.map V.ref).length = secs.length := by rw [List.length_map, a3]
  have jl : j < ixs.length := (List.getElem?_eq_some_iff.mp hj).1
  refine ⟨_, rfl, t, rfl, ⟨_, SqT.of ht⟩, for_it walk_tup (fun i σ H1 => ∃ v2, σ = [some (.ref p), some (.ref t), v2, none, none, none, none] ∧ Same H H1 ∧ i ≤ j) ⟨none, rfl, Same.refl H, Nat.zero_le _⟩ (fun i σ H1 _ ⟨_, _, s1, _⟩ => SqT.of (s1 _ _ ht)) ?_ ?_⟩
  · rintro i y σ H1 H2 hi ⟨v2, rfl, s1, hij⟩ ⟨e, hy⟩
    subst e
    obtain ⟨m, hm, rfl⟩ : ∃ n, ixs[i]? = some n ∧ y = V.int ((n : Nat) : Int) := by
      rw [List.getElem?_map] at hy
      obtain ⟨t, z1, z2⟩ := Option.map_eq_some_iff.mp hy
      exact ⟨t, z1, z2.symm⟩
    by_cases eij : i = j
    · subst eij
      obtain rfl : m = n := by rw [hj] at hm; exact (Option.some.inj hm).symm
      refine ⟨_, rfl, _, rfl, p, C, dx, _, _, rfl, s1 _ _ hp, R.cl, R.nS, rf_sections _ _, at_, _, rfl, .inr (SqT.of (s1 _ _ a2)), _, _, rfl, rfl, (m : Nat), 0, _, rfl, false, ?_, iteT ⟨_, rfl, by show 1 ≤ 1000; decide, fld_mk k s1⟩⟩
      rw [hts]
      rw [decide_eq_true (by omega : (0 : Int) ≤ (m : Int)), decide_eq_false (by omega : ¬ (m : Int) ≤ ((secs.length : Nat) : Int) - 1)]
      rfl
    · have nl := hlt i m (by omega) hm
      refine ⟨_, rfl, _, rfl, p, C, dx, _, _, rfl, s1 _ _ hp, R.cl, R.nS, rf_sections _ _, at_, _, rfl, .inr (SqT.of (s1 _ _ a2)), _, _, rfl, rfl, (m : Nat), 0, _, rfl, true, ?_, iteF ⟨_, rfl, s1, by omega⟩⟩
      rw [hts]
      rw [decide_eq_true (by omega : (0 : Int) ≤ (m : Int)), decide_eq_true (by omega : (m : Int) ≤ ((secs.length : Nat) : Int) - 1)]
      rfl
  · rintro σ H1 ⟨v2, rfl, s1, hij⟩
    rw [List.length_map] at hij
    omega
/-! ### first_loser, with what it doesn't take -/
def spFLU0 (CR CS CN : Addr) (T : List (Addr × Str)) : Sp := fun vs H Q E => ∃ (p a t : Addr) (secs : List Sec) (cars : List Car) (mv : V) (xs : List V), vs = [.ref p, .ref a, mv, .ref t] ∧ H t = some (.tup xs) ∧ RoadAt CR H p secs ∧ CarsAt H a cars ∧ SecsOk secs ∧ CarsOk cars ∧ Plain mv ∧
  ((numB mv 0 1000000 = false ∧ ∀ H', Same H H' → E (.ref CN) none H') ∨ ∃ (m : Int) (ixs : List Nat) (j n : Nat), mv = .int m ∧ 0 ≤ m ∧ m ≤ 1000000 ∧ xs = (ixs.map fun n => V.int ((n : Nat) : Int)) ∧ ixs.length ≤ 1000 ∧ ixs[j]? = some n ∧ secs.length ≤ n ∧ (∀ (i m : Nat), i < j → ixs[i]? = some m → m < secs.length) ∧ FldE CS "index" (.int ((n : Nat) : Int)) H E)
abbrev spFLU (CR CS CN : Addr) (T : List (Addr × Str)) : Sp := fun vs H Q E => ∃ ws rest, vs = ws ++ rest ∧ ws.length = (["road", "cars", "most"] : List Str).length ∧ rest.length ≤ sizeLine ∧ ∀ p, H p = Option.none → spFLU0 CR CS CN T (ws ++ [V.ref p]) (upd H p (.tup rest)) Q E
theorem ok_loserU {f fW fM CR C CS CN lp kp : Addr} {fd : FuncData} {T : List (Addr × Str)} (F : Fun K "first_loser" "first_loser" sFirstLoser f fd) (I : Inf63 P w K mg base CR C T) (RR : RoadT K w mg CR lp kp) (EN : ErrT K mg "InvalidNumber" CN)
    (IB : ∃ f fd, Fb K mg "is_number" sIsNumber ["value", "least", "most"] f fd ∧ FnOk P w K mg base CX0 1 f fd ["value", "least", "most"] spIsNumV) (IW : ∃ f, L2.BMeth K CR "widened" f ∧ FnR P w K mg base (L2.CX P w) 5 f (spWidU CR CS)) : FnR P w K mg base (L2.CX P w) 7 f (spFLU CR CS CN T) := by
  obtain ⟨oc, od0, kV0, doc, pm, an, cdv, ct, osl, rfl, lk, hcd⟩ := F.ex
  refine StX.fn_star lk hcd scFL StX.cxUp (bind_star3 (p1 := "road") (p2 := "cars") (p3 := "most") (pv := "sections") (B := fun xs => bindArgs (PySem.W.fnOf "first_loser" "first_loser" (defArgs sFirstLoser) (defBody sFirstLoser) (defScope sFirstLoser) .none kV0 doc pm an cdv ct) ⟨xs, []⟩) (fun _ _ _ => rfl) (fun _ _ _ _ _ => rfl)) fun A outer s H vs Q E hr h => ?_
  obtain ⟨p, a, t, secs, cars, mv, xs, rfl, ht, rd, ctt, SO, CO, hmv, h⟩ := h
  have nd := scFL.nd
  have M := I.M
  have R := I.R
  obtain ⟨_, MG⟩ := I.mgr
  obtain ⟨fI, dI, MI, bI, GI⟩ := I.init
  obtain ⟨fC, dC, BC, GC⟩ := I.cars
  obtain ⟨fB, dB, BB, GB⟩ := IB
  obtain ⟨fL, dL, BL, GL⟩ := I.losses
  obtain ⟨fW, BW, GW⟩ := IW
  have hr1 : Room 1 (A.deeper (PyProof.Rows.envOfC "first_loser" (defScope sFirstLoser) s.heap.objs.size f cdv)) := hr.mono (by decide)
  have hr3 : Room 3 (A.deeper (PyProof.Rows.envOfC "first_loser" (defScope sFirstLoser) s.heap.objs.size f cdv)) := hr.mono (by decide)
  have hr5 : Room 5 (A.deeper (PyProof.Rows.envOfC "first_loser" (defScope sFirstLoser) s.heap.objs.size f cdv)) := hr.mono (by decide)
  refine ⟨_, pss_cons (ps_expr (pe_call GC hr3 (by rfl) BC.at_ BC.fn.kp BC.bd .nil pass0 (pa_cons (pv 1) pa_nil))) (pss_cons (ps_if (pt_not (pt_val (pe_call GB hr1 (by rfl) BB.at_ BB.fn.kp BB.bd .nil pass0 (pa_cons (pv 2) (pa_cons pe_int (pa_cons (pe_glob (v := .int 1000000) (by rfl) MG ⟨_, rfl⟩) pa_nil)))))) (pss_one (ps_raise rfl (takes_of rfl rfl rfl rfl) (pmk_errT EN (by rfl)))) pss_nil)
    (pss_cons (ps_set (i := 4) nd rfl (.inl rfl) (pe_meth0 (pe_make MI GI hr (by rfl) R.mgC bI .nil pass0 (pa_cons (pe_methS (pv 0) RR.cl BW GW hr5 (passes_call (takes_of rfl rfl rfl rfl) fun _ _ _ _ h => h) (pv 3)) (pa_cons (pv 1) pa_nil))) R.cl BL.at_ GL hr1 BL.bd .nil pass0)) pss_never)), ?_⟩
  refine ⟨_, rfl, a, cars, rfl, ctt, CO, fun H1 s1 => ?_⟩
  refine ⟨_, rfl, mv, 0, 1000000, rfl, hmv, ?_⟩
  rcases h with ⟨hb, kE⟩ | ⟨m, ixs, j, n, rfl, m0, m1, rfl, i1000, hj, hn, hlt, kE⟩
  · rw [hb]
    exact ⟨false, rfl, iteT (kE H1 s1)⟩
  · rw [show numB (.int m) 0 1000000 = true by show (decide (0 ≤ m) && decide (m ≤ 1000000)) = true; rw [decide_eq_true m0, decide_eq_true m1]; rfl]
    refine ⟨true, rfl, iteF ?_⟩
    have ht1 := s1 _ _ ht
    have rd1 := rd.ext2 (ExtN.same s1)
    obtain ⟨rdx, rts, ru, r1, r2, r3⟩ := id rd1
    refine ⟨_, rfl, p, rdx, _, rfl, r1, rf_no _ _ (by decide +kernel) (by decide +kernel), fun q hq => ⟨_, rfl, t, ixs.map fun n => V.int ((n : Nat) : Int), rfl, ?_, upd_same, ?_⟩⟩
    · exact SqT.of (sameNew hq (.met _ _) _ _ ht1)
    refine ⟨[.ref p], _, rfl, rfl, by rw [List.length_map]; exact Nat.le_of_lt (small1000 i1000), fun t2 ht2 => ?_⟩
    have sm := (sameNew hq (.met fW p)).trans (sameNew ht2 (.tup (ixs.map fun n => V.int ((n : Nat) : Int))))
    exact ⟨p, t2, secs, ixs, j, n, rfl, upd_same, rd1.ext2 (ExtN.same sm), SO, hj, hn, hlt, fun H2 d fs s2 h1 h2 => kE H2 d fs (s1.trans (sm.trans s2)) h1 h2⟩
/-! ### fewest_widened, with what it doesn't take -/
def spFewU (CR CN : Addr) (T : List (Addr × Str)) : Sp := fun vs H Q E => ∃ (p a : Addr) (secs : List Sec) (cars : List Car) (mv : V), vs = [.ref p, .ref a, mv] ∧ RoadAt CR H p secs ∧ CarsAt H a cars ∧ SecsOk secs ∧ CarsOk cars ∧ Plain mv ∧ secs.length ≤ 7 ∧ numB mv 0 1000000 = false ∧ ∀ H', Same H H' → E (.ref CN) none H'
theorem ok_fewU {f fL CR C CS CN pp fP lp kp : Addr} {fd dP dL : FuncData} {T : List (Addr × Str)} (F : Fun K "fewest_widened" "fewest_widened" sFewestWidened f fd) (M : Mg mg) (RR : RoadT K w mg CR lp kp)
    (PO : PropOf K CR "sections" pp fP) (bP : Binds K dP ["self"] []) (GP : FnOk P w K mg base CX0 1 fP dP ["self"] (getSp CR "_sections"))
    (aL : mg "first_loser" = some (.ref fL)) (FL : Fun K "first_loser" "first_loser" sFirstLoser fL dL) (GL : FnR P w K mg base (L2.CX P w) 7 fL (spFLU CR CS CN T)) :
    FnOk P w K mg base (L2.CX P w) 8 f fd ["road", "cars", "most"] (spFewU CR CN T) := by
  refine F.okX scFW (fun vs H Q E h => ?_) (fun cdv A outer s H vs Q E hr h => ?_)
  · obtain ⟨p, a, secs, cars, m, rfl, _⟩ := h
    rfl
  · obtain ⟨p, a, secs, cars, mv, rfl, rd, ct, SO, CO, hmv, h7, hb, kE⟩ := h
    have nd := scFW.nd
    have hr2 : Room 2 (A.deeper (PyProof.Rows.envOfC "fewest_widened" (defScope sFewestWidened) s.heap.objs.size f cdv)) := hr.mono (by decide)
    have hr7 : Room 7 (A.deeper (PyProof.Rows.envOfC "fewest_widened" (defScope sFewestWidened) s.heap.objs.size f cdv)) := hr.mono (by decide)
    refine ⟨_, pss_cons (ps_set (i := 3) nd rfl (.inr rfl) (pe_lc (own := [("at", 6), ("kind", 7), ("length", 8)]) (g := gTup K 2 (gCons (gName 6) (gCons (gTup K 2 (gCons (gName 7) (gCons (gName 8) gNil))) gNil))) (tt := tTest (tOp rEq (tVar 7) (tC (.str "narrow")))) (te := tVar 6) (by rfl) nd (pi_enumT (by rfl) M.enumerate (pa_cons (pe_prop (pv 0) RR.cl PO GP hr2 bP .nil pass0 rfl) pa_nil)) (blkOk_by (N := nFW) (sc := defScope sFewestWidened) (by decide +kernel)) (fun _ _ _ _ _ => pg_tup rfl (pgs_cons (pg_name (i := 6) nd rfl (.inl rfl)) (pgs_cons (pg_tup rfl (pgs_cons (pg_name (i := 7) nd rfl (.inl rfl)) (pgs_cons (pg_name (i := 8) nd rfl (.inl rfl)) pgs_nil))) pgs_nil))) (fun _ _ _ _ _ => pts_one (pt_cmpR op_eq (pv 7) pe_str (nomark _))) (fun _ _ _ _ _ => pv 6))) (pss_cons (ps_set (i := 4) nd rfl (.inl rfl) (pe_lst (pa_cons (pe_lst pa_nil) pa_nil))) (pss_one (ps_while (passes_of rfl) (pt_val pe_bl)
      (pss_cons (ps_for (passes_of rfl) rfl (pi_list (pv 4)) (pg_name (i := 5) nd rfl (.inl rfl)) (pss_one (ps_if (pt_cmp (pc_isN (StX.pe_callS2 GL hr7 FL.kp (by rfl) aL (passes_call (takes_of rfl rfl rfl rfl) fun _ _ _ _ h => h) (pa_cons (pv 0) (pa_cons (pv 1) (pa_cons (pv 2) (StX.pa_star (pv 5) pa_nil))))))) (pss_one (ps_ret (pv 5))) pss_nil))) pss_never)))), ?_⟩
    have h10 := CO.few
    obtain ⟨rdx, rts, ru, r1, r2, r3⟩ := id rd
    obtain ⟨us, r4, r5, r6⟩ := id r2
    have hus : (us.map V.ref).length = secs.length := by rw [List.length_map, r5]
    refine ⟨_, rfl, p, rdx, _, rfl, r1, p, rdx, _, _, rfl, r1, rf_sections _ _, rts, _, rfl, SqT.of r4, fun D hD => ?_⟩
    refine lc_it walk_enumT (fun i H2 => Same H H2 ∧ H2 D = some (.lst (natV (narL secs i))))
      ⟨sameNew hD _, upd_same⟩ (fun i H2 _ ⟨k2, _⟩ => SqT.of (k2 _ _ r4)) ?_ ?_
    · rintro i y H2 H3 hi ⟨k2, u1⟩ ⟨T', x1, x2, rfl, hT, rfl, e1, e2⟩
      cases e1
      rw [hus] at hi
      have e2 : (us.map V.ref)[i]? = some x2 := e2
      obtain ⟨tt, htt, rfl⟩ : ∃ t, us[i]? = some t ∧ x2 = V.ref t := by
        rw [List.getElem?_map] at e2
        obtain ⟨t, z1, z2⟩ := Option.map_eq_some_iff.mp e2
        exact ⟨t, z1, z2.symm⟩
      have hc : secs[i]? = some secs[i] := List.getElem?_eq_getElem hi
      have sT := k2.trans (sameNew hT (.tup [V.int ((i : Nat) : Int), V.ref tt]))
      have u2 := sameNew hT (.tup [V.int ((i : Nat) : Int), V.ref tt]) _ _ u1
      have hct := sT _ _ (r6 i tt _ htt hc)
      have hnl := narL_len secs i
      have hn : isNar secs i = !secs[i].1 := by unfold isNar; rw [hc]; rfl
      refine ⟨T', _, rfl, SqT.of upd_same, rfl, _, _, rfl, _, _, rfl, ⟨tt, _, rfl, SqT.of hct, rfl, _, _, rfl, _, _, rfl, rfl, rfl, rfl, ?_⟩⟩
      generalize upd H2 T' (.tup [V.int ((i : Nat) : Int), V.ref tt]) = H4 at sT u2 ⊢
      refine ⟨_, rfl, rfl, _, rfl, ?_⟩
      rw [show decide (V.str (kindS secs[i].1) = V.str "narrow") = isNar secs i by rw [hn]; cases secs[i].1 <;> rfl, narL_succ]
      cases hq : isNar secs i with
      | true =>
        refine iteT ⟨_, rfl, _, u2, small1000 (by rw [natV_len]; omega), fun b o e => by rw [upd_ne (ne_of_none e hD)]; exact sT _ _ e, ?_⟩
        rw [upd_same, if_pos rfl, natV_app]
        rfl
      | false =>
        refine iteF ⟨sT, ?_⟩
        rw [if_neg (by decide), List.append_nil]
        exact u2
    rintro H1 ⟨s1, hD1⟩
    rw [hus] at hD1
    refine ⟨Nat.zero_le _, fun q0 hq0 => ⟨by show 1 ≤ sizeLine; decide, fun q1 hq1 => ?_⟩⟩
    have s3 := s1.trans ((sameNew hq0 (.lst [])).trans (sameNew hq1 (.lst [V.ref q0])))
    have w0 := sameNew hq1 (.lst [V.ref q0]) _ _ (upd_same (H := H1) (a := q0) (o := .lst []))
    have w1 : upd (upd H1 q0 (.lst [])) q1 (.lst [V.ref q0]) q1 = some (.lst [V.ref q0]) := upd_same
    generalize upd (upd H1 q0 (.lst [])) q1 (.lst [V.ref q0]) = H3 at s3 w0 w1 ⊢
    refine ⟨fun n σ H' => σ = [some (.ref p), some (.ref a), some mv, some (.ref D), some (.ref q1), none, none, none, none, none] ∧ H' = H3, ⟨0, rfl, rfl⟩, ?_⟩
    rintro n σ H4 ⟨rfl, rfl⟩
    refine ⟨true, rfl, iteT ⟨fun _ _ => False, ?_, ?_⟩⟩
    · exact fun _ _ z => z.elim
    · refine ⟨_, rfl, q1, rfl, ⟨_, SqL.of w1⟩, for_it walk_list (fun i σ H5 => i = 0 ∧ H5 = H4 ∧ σ = [some (.ref p), some (.ref a), some mv, some (.ref D), some (.ref q1), none, none, none, none, none]) ⟨rfl, rfl, rfl⟩ (fun i σ H5 _ ⟨_, e, _⟩ => SqL.of (by rw [e]; exact w1)) ?_ ?_⟩
      · rintro i y σ Hz H5 hi ⟨rfl, rfl, rfl⟩ ⟨e, hy⟩
        subst e
        obtain rfl : y = V.ref q0 := (Option.some.inj hy).symm
        refine ⟨_, rfl, _, rfl, _, rfl, _, rfl, q0, [], rfl, .inr (SqL.of w0), ?_⟩
        refine ⟨[.ref p, .ref a, mv], [] ++ [], rfl, rfl, Nat.zero_le _, fun t2 ht2 => ?_⟩
        have s6 := sameNew ht2 (.tup ([] ++ []))
        have s36 := s3.trans s6
        exact ⟨p, a, t2, secs, cars, mv, [] ++ [], rfl, upd_same, rd.ext2 (ExtN.same s36), ct.ext (ExtN.same s36), SO, CO, hmv, .inl ⟨hb, fun H' s => kE H' (s36.trans s)⟩⟩
      · rintro σ H5 ⟨h, _⟩
        exact absurd (show (1 : Nat) = 0 from h) (by decide)
end
end Sl

set_option Elab.async false
set_option linter.all false
set_option maxRecDepth 100000
set_option maxHeartbeats 2000000
namespace Sl
open PySem PySem.Spec L2 OwnR LamX
section
variable {P : Program} {w : World} {K : PySem.W.Frag} {mg : Str → Option Value} {base : Heap}
/-! ### _law_wide -/
def spWide : Sp := fun vs H Q _ => ∃ (l x : Addr) (secs : List Sec) (ixs : List Nat), vs = [.ref l, .ref x] ∧ RunsAt H l secs ∧ H x = some (.lst (natV ixs)) ∧ ixs.length ≤ 1000 ∧ secs.length ≤ 12 ∧ ∀ H' b, Same H H' → H b = none → RunsAt H' b (widen secs ixs) → Q (.ref b) H'
def nWide : List Str := ["_law_parts_here", "_law_indexes", "_law_k"]
theorem scWide : FnScope nWide ["_law_parts_here", "_law_indexes"] (defScope sWide) := ⟨rfl, rfl, rfl, by decide +kernel, rfl, by decide +kernel, by decide +kernel⟩
theorem ok_wide {f : Addr} {fd : FuncData} (F : Fun K "_law_wide" "_law_wide" sWide f fd) (M : Mg mg) : FnOk P w K mg base CX0 1 f fd ["_law_parts_here", "_law_indexes"] spWide := by
  refine F.ok scWide (fun vs H Q E h => ?_) (fun cdv A outer s H vs Q E hr h => ?_)
  · obtain ⟨l, x, secs, ixs, rfl, _⟩ := h
    rfl
  · obtain ⟨l, x, secs, ixs, rfl, ⟨ts, a1, a2, a3⟩, hx, hi, h12, k⟩ := h
    have nd := scWide.nd
    refine ⟨_, pss_one (ps_ret (pe_lc (own := [("_law_k", 2)]) (g := gName 2) (tt := tYes) (te := tTup (tCons (tIf (tTest (tOp (rIn K false) (tVar 2) (tVar 1))) (tC (.str "wide")) (tOp (rIxT K) (tOp (rIxL K) (tVar 0) (tVar 2)) (tC (.int 0)))) (tCons (tOp (rIxT K) (tOp (rIxL K) (tVar 0) (tVar 2)) (tC (.int 1))) tNil))) (by rfl) nd
      (pi_range1 (by rfl) M.range (pa_cons (pe_callB call_len_seq (by rfl) M.len boot_len (pa_cons (pv 0) pa_nil)) pa_nil)) (blkOk_by (N := nWide) (sc := defScope sWide) (by decide +kernel)) (fun _ _ _ _ _ => pg_name (i := 2) nd rfl (Or.inl rfl)) (fun _ _ _ _ _ => pts_nil)
      (fun _ _ _ _ _ => pe_tup (pa_cons (pe_ifExp (pt_cmpR op_in_seq (pv 2) (pv 1) (by rfl)) pe_str (pe_ix (r := rIxT K) ix_tup (pe_ix (r := rIxL K) ix_list (pv 0) (pv 2) (fun _ _ => rfl)) pe_int (fun _ _ => rfl))) (pa_cons (pe_ix (r := rIxT K) ix_tup (pe_ix (r := rIxL K) ix_list (pv 0) (pv 2) (fun _ _ => rfl)) pe_int (fun _ _ => rfl)) pa_nil))))), ?_⟩
    have hl : (ts.map V.ref).length = secs.length := by rw [List.length_map, a2]
    refine ⟨_, rfl, l, _, rfl, .inl (SqL.of a1), ?_⟩
    rw [hl]
    refine ⟨_, rfl, by omega, by omega, fun D hD => ?_⟩
    rw [Int.toNat_natCast]
    refine lc_it walk_range (fun i H1 => Same H H1 ∧ ∃ us : List Addr, H1 D = some (.lst (us.map V.ref)) ∧ us.length = i ∧ ∀ (q : Nat) (t : Addr) (s : Sec), us[q]? = some t → (widen secs ixs)[q]? = some s → H1 t = some (.tup (secV s)))
      ⟨sameNew hD _, [], upd_same, rfl, fun q t c e => by simp at e⟩ (fun _ _ _ _ => True.intro) ?_ ?_
    · rintro i z H2 H1 hi2 ⟨k1, us, u1, u2, u3⟩ ⟨e, ez⟩
      have ez : z = V.int ((i : Nat) : Int) := by
        rw [ez]
        show V.int (0 + ((i : Nat) : Int)) = _
        rw [Int.zero_add]
      subst e ez
      obtain ⟨t, ht⟩ : ∃ t, ts[i]? = some t := ⟨_, List.getElem?_eq_getElem (by omega)⟩
      have hc : secs[i]? = some secs[i] := List.getElem?_eq_getElem hi2
      have hct := k1 _ _ (a3 i t _ ht hc)
      have hw := widen_get (ixs := ixs) hc
      refine ⟨rfl, yes_of ?_⟩
      refine ⟨_, rfl, _, rfl, x, _, rfl, .inl (SqL.of (k1 _ _ hx)), rfl, flat_nats ixs, _, rfl, ?_⟩
      rw [show (if false = true then !inV (V.int ((i : Nat) : Int)) (natV ixs) else inV (V.int ((i : Nat) : Int)) (natV ixs)) = decide (i ∈ ixs) from in_nats i ixs]
      have fin : ∀ (kd : Str), kd = kindS (decide (i ∈ ixs) || secs[i].1) → ∀ xx, H1 xx = none → ∃ acc, upd H1 xx (.tup [.str kd, .int ((secs[i].2 : Nat) : Int)]) D = some (.lst acc) ∧ acc.length < sizeLine ∧ (Same H (upd (upd H1 xx (.tup [.str kd, .int ((secs[i].2 : Nat) : Int)])) D (.lst (acc ++ [V.ref xx]))) ∧ ∃ us : List Addr, upd (upd H1 xx (.tup [.str kd, .int ((secs[i].2 : Nat) : Int)])) D (.lst (acc ++ [V.ref xx])) D = some (.lst (us.map V.ref)) ∧ us.length = i + 1 ∧ ∀ (q : Nat) (t : Addr) (s : Sec), us[q]? = some t → (widen secs ixs)[q]? = some s → upd (upd H1 xx (.tup [.str kd, .int ((secs[i].2 : Nat) : Int)])) D (.lst (acc ++ [V.ref xx])) t = some (.tup (secV s))) := fun kd hkd xx hxx => by
        have sx := sameNew hxx (.tup [.str kd, .int ((secs[i].2 : Nat) : Int)])
        have u1' := sx _ _ u1
        refine ⟨_, u1', small1000 (by rw [List.length_map, u2]; omega), fun b o e => by rw [upd_ne (ne_of_none e hD)]; exact sx _ _ (k1 _ _ e), us ++ [xx], by rw [upd_same, List.map_append]; rfl, by rw [List.length_append, u2]; rfl, fun q t' s' e1 e2 => ?_⟩
        have key : upd H1 xx (.tup [.str kd, .int ((secs[i].2 : Nat) : Int)]) t' = some (.tup (secV s')) := by
          rcases snoc_get e1 with e1 | ⟨hq, rfl⟩
          · exact sx _ _ (u3 q t' s' e1 e2)
          · rw [hq, u2, hw] at e2
            rw [upd_same, ← Option.some.inj e2, hkd]
            rfl
        rw [upd_ne (ne_of key u1' (by intro z; cases z))]
        exact key
      by_cases h : i ∈ ixs
      · rw [decide_eq_true h] at fin ⊢
        refine iteT ⟨_, rfl, _, rfl, l, _, _, .ref t, rfl, rfl, SqL.of (k1 _ _ a1), atI_nat (map_at V.ref ht), t, _, _, _, rfl, rfl, SqT.of hct, rfl, by show 2 ≤ sizeLine; decide, fun xx hxx => fin "wide" rfl xx hxx⟩
      · rw [decide_eq_false h] at fin ⊢
        refine iteF ⟨_, rfl, _, rfl, l, _, _, .ref t, rfl, rfl, SqL.of (k1 _ _ a1), atI_nat (map_at V.ref ht), t, _, _, _, rfl, rfl, SqT.of hct, rfl, _, rfl, _, rfl, l, _, _, .ref t, rfl, rfl, SqL.of (k1 _ _ a1), atI_nat (map_at V.ref ht), t, _, _, _, rfl, rfl, SqT.of hct, rfl, by show 2 ≤ sizeLine; decide, fun xx hxx => fin _ rfl xx hxx⟩
    · rintro H1 ⟨k1, us, u1, u2, u3⟩
      exact k H1 D k1 hD ⟨us, u1, by rw [u2, widen_len], u3⟩
end
end Sl

set_option Elab.async false
set_option linter.all false
namespace OwnR
open PySem PySem.Spec L2
/-- sorted pairs (key, index): the stable order by key -/
theorem sorted_pairs_isort {xs ys : List V} {k : V → Int × Int} (hs : SrtO.Srtd (ltP k) ys) (hb : SrtO.Stb (ltP k) ys xs) (hi : ∀ (i : Nat) (x : V), xs[i]? = some x → (k x).2 = (i : Int)) :
    ys = (isort (xs.map fun x => ((k x).1, x))).map (·.2) := by
  have hx : xs.Pairwise fun a b => (k a).2 < (k b).2 := by
    rw [List.pairwise_iff_getElem]
    intro i j h1 h2 hij
    rw [hi i _ (List.getElem?_eq_getElem h1), hi j _ (List.getElem?_eq_getElem h2)]
    omega
  have inj : ∀ a b, a ∈ xs → b ∈ xs → (k a).2 = (k b).2 → a = b := by
    intro a b ha hb e
    obtain ⟨i, h1⟩ := List.mem_iff_getElem?.mp ha
    obtain ⟨j, h2⟩ := List.mem_iff_getElem?.mp hb
    rw [hi i a h1, hi j b h2] at e
    have : i = j := by omega
    subst this
    rw [h1] at h2
    exact Option.some.inj h2
  have hy : ys.Pairwise fun a b => ¬ ((k b).1 < (k a).1 ∨ ((k b).1 = (k a).1 ∧ (k b).2 < (k a).2)) := by
    refine List.Pairwise.imp ?_ hs
    intro a b h
    exact SrtO.lexB_no.mp h
  have e : (ys.map fun x => ((k x).1, x)) = isort (xs.map fun x => ((k x).1, x)) := by
    refine isort_unique ?_ fun z => ?_
    · rw [List.pairwise_map]
      refine List.Pairwise.imp ?_ hy
      intro a b h
      show (k a).1 ≤ (k b).1
      omega
    · rw [List.filter_map, List.filter_map]
      congr 1
      refine List.Perm.eq_of_pairwise (le := fun a b => (k a).2 ≤ (k b).2) (fun a b ha hb' h1 h2 => ?_) ?_ ?_ (hb.perm.filter _)
      · exact inj a b (hb.perm.mem_iff.mp (List.mem_filter.mp ha).1) (List.mem_filter.mp hb').1 (by omega)
      · refine List.Pairwise.imp_of_mem ?_ (List.Pairwise.sublist List.filter_sublist hy)
        intro a b ha hb' h
        have h1 : (k a).1 = z := by simpa using (List.mem_filter.mp ha).2
        have h2 : (k b).1 = z := by simpa using (List.mem_filter.mp hb').2
        omega
      · refine List.Pairwise.imp ?_ (List.Pairwise.sublist List.filter_sublist hx)
        intro a b h
        omega
  rw [← e, List.map_map]
  exact (List.map_id _).symm
end OwnR

set_option Elab.async false
set_option linter.all false
set_option maxRecDepth 100000
set_option maxHeartbeats 1000000
namespace Sl
open PySem PySem.Spec L2 OwnR LamX
theorem boot_max : bootBuiltins "max" = some (.builtin "max") := by decide +kernel
theorem boot_sortedB : bootBuiltins "sorted" = some (.builtin "sorted") := by decide +kernel
section
variable {P : Program} {w : World} {K : PySem.W.Frag} {mg : Str → Option Value} {base : Heap}
/-! ### _law_section -/
def nSection : List Str := ["_law_kind", "_law_length", "_law_entries", "_law_own", "_law_leaders", "_law_exits", "_law_order", "_law_tops", "_law_k", "_law_free", "_law_name", "_law_tick", "_law_pace", "_law_j"]
theorem scSection : FnScope nSection ["_law_kind", "_law_length", "_law_entries"] (defScope sSection) := ⟨rfl, rfl, rfl, by decide +kernel, rfl, by decide +kernel, by decide +kernel⟩
/-- (name, tick, pace) -/
abbrev Ent : Type := Str × Int × Int
def entV (e : Ent) : List V := [.str e.1, .int e.2.1, .int e.2.2]
def ownT (n : Nat) (e : Ent) : Int := e.2.1 + e.2.2 * (n : Int)
def pairK (H : Hp) (v : V) : Int × Int := match v with
  | .ref t => match H t with
    | some (.tup [.int a, .int b]) => (a, b)
    | _ => (0, 0)
  | _ => (0, 0)
theorem pairK_of {H : Hp} {t : Addr} {a b : Int} (h : H t = some (.tup [.int a, .int b])) : pairK H (.ref t) = (a, b) := by
  unfold pairK
  simp only [h]
def outW (n : Nat) (es : List Ent) : List Ent := (sortBy (ownT n) es).map fun e => (e.1, ownT n e, e.2.2)
def topL (n : Nat) (es : List Ent) (j : Nat) : Int := ((es.take j).map (ownT n)).foldl max 0
theorem foldl_max (l : List Int) : ∀ a : Int, l.foldl max a ∈ a :: l ∧ ∀ y ∈ a :: l, y ≤ l.foldl max a := by
  induction l with
  | nil => intro a; exact ⟨by simp, fun y hy => by rw [List.mem_singleton.mp hy]; exact Int.le_refl _⟩
  | cons b r ih =>
    intro a
    obtain ⟨h1, h2⟩ := ih (max a b)
    rw [List.foldl_cons]
    refine ⟨?_, fun y hy => ?_⟩
    · rcases List.mem_cons.mp h1 with e | e
      · rw [e]
        by_cases h : a ≤ b
        · rw [Int.max_eq_right h]; simp
        · rw [Int.max_eq_left (by omega)]; simp
      · exact List.mem_cons_of_mem _ (List.mem_cons_of_mem _ e)
    · have hm := h2 (max a b) (List.mem_cons_self)
      rcases List.mem_cons.mp hy with e | e
      · rw [e]; omega
      · rcases List.mem_cons.mp e with e | e
        · rw [e]; omega
        · exact h2 y (List.mem_cons_of_mem _ e)
theorem topL_is {n : Nat} {es : List Ent} {j : Nat} {m : Int} (h1 : m ∈ (0 : Int) :: (es.take j).map (ownT n)) (h2 : ∀ y ∈ (0 : Int) :: (es.take j).map (ownT n), y ≤ m) : m = topL n es j := by
  obtain ⟨a, b⟩ := foldl_max ((es.take j).map (ownT n)) 0
  have := h2 _ a
  have := b _ h1
  unfold topL
  omega
/-- who is late has somebody in front who was not -/
theorem free_ne {n : Nat} {es : List Ent} {j : Nat} {e : Ent} (h0 : 0 ≤ ownT n e) (h : ownT n e < topL n es j) : ∃ i x, i < j ∧ es[i]? = some x ∧ topL n es i ≤ ownT n x := by
  obtain ⟨a, b⟩ := foldl_max ((es.take j).map (ownT n)) 0
  rcases List.mem_cons.mp a with z | z
  · unfold topL at h
    omega
  · obtain ⟨x, hx, e1⟩ := List.mem_map.mp z
    obtain ⟨i, hi⟩ := List.mem_iff_getElem?.mp hx
    rw [List.getElem?_take] at hi
    split at hi
    · rename_i hij
      refine ⟨i, x, hij, hi, ?_⟩
      obtain ⟨c, _⟩ := foldl_max ((es.take i).map (ownT n)) 0
      have e2 : topL n es j = ownT n x := e1.symm
      have : topL n es i ≤ topL n es j := by
        refine b _ ?_
        rcases List.mem_cons.mp c with w | w
        · show topL n es i ∈ _
          unfold topL
          rw [w]
          exact List.mem_cons_self
        · obtain ⟨y, hy, e3⟩ := List.mem_map.mp w
          refine List.mem_cons_of_mem _ (List.mem_map.mpr ⟨y, ?_, e3⟩)
          obtain ⟨q, hq⟩ := List.mem_iff_getElem?.mp hy
          rw [List.getElem?_take] at hq
          split at hq
          · exact List.mem_of_getElem? (i := q) (by rw [List.getElem?_take, if_pos (by omega)]; exact hq)
          · cases hq
      omega
    · cases hi
def outN (n : Nat) (es : List Ent) : Nat → List Ent
  | 0 => []
  | j + 1 => match es[j]? with
    | some e => outN n es j ++ [(e.1, max (ownT n e) (topL n es j), e.2.2)]
    | none => outN n es j
/-- the places of those who follow nobody -/
def frees (n : Nat) (es : List Ent) : Nat → List Nat
  | 0 => []
  | j + 1 => match es[j]? with
    | some e => if topL n es j ≤ ownT n e then frees n es j ++ [j] else frees n es j
    | none => frees n es j
def ldrX (n : Nat) (es : List Ent) (j : Nat) : Option Str := ((frees n es j).getLast?).bind fun r => (es[r]?).map (·.1)
def rowX (n : Nat) (es : List Ent) (j : Nat) (e : Ent) : RowT Str := (e.1, max (ownT n e) (topL n es j), if ownT n e < topL n es j then ldrX n es j else none)
def rowN (n : Nat) (es : List Ent) : Nat → List (RowT Str)
  | 0 => []
  | j + 1 => match es[j]? with
    | some e => rowN n es j ++ [rowX n es j e]
    | none => rowN n es j
theorem rowN_succ {n : Nat} {es : List Ent} {j : Nat} {e : Ent} (h : es[j]? = some e) : rowN n es (j + 1) = rowN n es j ++ [rowX n es j e] := by
  show (match es[j]? with
    | some e => rowN n es j ++ [rowX n es j e]
    | none => rowN n es j) = _
  rw [h]
theorem frees_succ {n : Nat} {es : List Ent} {j : Nat} {e : Ent} (h : es[j]? = some e) : frees n es (j + 1) = if topL n es j ≤ ownT n e then frees n es j ++ [j] else frees n es j := by
  show (match es[j]? with
    | some e => if topL n es j ≤ ownT n e then frees n es j ++ [j] else frees n es j
    | none => frees n es j) = _
  rw [h]
theorem rowN_names {n : Nat} {es : List Ent} : ∀ j, j ≤ es.length → (rowN n es j).map (·.1) = (es.take j).map (·.1) := by
  intro j
  induction j with
  | zero => intro _; rfl
  | succ j ih =>
    intro hj
    obtain ⟨e, he⟩ : ∃ e, es[j]? = some e := ⟨_, List.getElem?_eq_getElem (by omega)⟩
    rw [rowN_succ he, List.map_append, ih (by omega), List.take_add_one, he, List.map_append]
    rfl
theorem ents_new {es : List Ent} (nd : (es.map (·.1)).Nodup) {i : Nat} {e : Ent} (h : es[i]? = some e) : e.1 ∉ (es.take i).map (·.1) := by
  intro hm
  obtain ⟨x, hx, ex⟩ := List.mem_map.mp hm
  obtain ⟨j, hj⟩ := List.mem_iff_getElem?.mp hx
  rw [List.getElem?_take] at hj
  split at hj
  · rename_i hlt
    have a1 : (es.map (·.1))[j]? = some e.1 := by rw [List.getElem?_map, hj]; exact congrArg some ex
    have a2 : (es.map (·.1))[i]? = some e.1 := by rw [List.getElem?_map, h]; rfl
    have := nd_ix nd a1 a2
    omega
  · cases hj
theorem none_back {H H' : Hp} {p : Addr} (s : Same H H') (h : H' p = none) : H p = none := by
  cases e : H p with
  | none => rfl
  | some o =>
    rw [s _ _ e] at h
    cases h
def ldS (b : Bool) (n : Nat) (es : List Ent) (m : Str) : Option Str := if b = true then none else leadOf (rowN n es es.length) m
def outS (b : Bool) (n : Nat) (es : List Ent) : List Ent := if b = true then outW n es else outN n es es.length
def spLSec : Sp := fun vs H Q _ => ∃ (b : Bool) (n : Nat) (e : Addr) (es : List Ent), vs = [.str (kindS b), .int (n : Nat), .ref e] ∧ TupsAt H e (es.map entV) ∧ es.length ≤ 10 ∧ n ≤ 99 ∧ (∀ x ∈ es, 0 ≤ x.2.1 ∧ 0 ≤ x.2.2 ∧ x.2.2 ≤ 60) ∧ (es.map (·.1)).Nodup ∧
  ∀ H' t x l kv, Same H H' → H' t = some (.tup [.ref x, .ref l]) → TupsAt H' x ((outS b n es).map entV) → H' l = some (.dK kv) → (∀ m, valV kv (Sum.inr m : Key) = (ldS b n es m).map V.str) → H x = none → H l = none → Q (.ref t) H'
theorem ok_lsec {f : Addr} {fd : FuncData} (F : Fun K "_law_section" "_law_section" sSection f fd) (M : Mg mg) (hmx : mg "max" = none) : FnOk P w K mg base CX0 1 f fd ["_law_kind", "_law_length", "_law_entries"] spLSec := by
  refine F.ok scSection (fun vs H Q E h => ?_) (fun cdv A outer s H vs Q E hr h => ?_)
  · obtain ⟨b, n, e, es, rfl, _⟩ := h
    rfl
  · obtain ⟨b, n, ea, es, rfl, hE, l10, n99, hd, hnds, k⟩ := h
    have nd := scSection.nd
    have hc1 := hu_of hr
    refine ⟨_, pss_cons (ps_asg (pe_tup (pa_cons (pe_lc (own := [("_law_name", 10), ("_law_tick", 11), ("_law_pace", 12)]) (g := gTup K 3 (gCons (gName 10) (gCons (gName 11) (gCons (gName 12) gNil)))) (tt := tYes) (te := tOp (rI0 fun i j => .int (i + j)) (tVar 11) (tOp (rI CMul fun i j => .int (i * j)) (tVar 12) (tVar 1))) (by rfl) nd (pi_list (pv 2)) (blkOk_by (N := nSection) (sc := defScope sSection) (by decide +kernel))
          (fun _ _ _ _ _ => pg_tup rfl (pgs_cons (pg_name (i := 10) nd rfl (Or.inl rfl)) (pgs_cons (pg_name (i := 11) nd rfl (Or.inl rfl)) (pgs_cons (pg_name (i := 12) nd rfl (Or.inl rfl)) pgs_nil)))) (fun _ _ _ _ _ => pts_nil) (fun _ _ _ _ _ => pe_op op_add (pv 11) (pe_op op_mul (pv 12) (pv 1)))) (pa_cons pe_dnewK (pa_cons (pe_lst pa_nil) pa_nil)))) (pg_tup rfl (pgs_cons (pg_name (i := 3) nd rfl (.inr rfl)) (pgs_cons (pg_name (i := 4) nd rfl (.inl rfl)) (pgs_cons (pg_name (i := 5) nd rfl (.inl rfl)) pgs_nil)))))
      (pss_cons (ps_if (pt_cmpR op_eq (pv 0) pe_str (nomark _))
        (pss_cons (ps_set (i := 6) nd rfl (.inl rfl) (pe_callB cr_sortedPO (by rfl) M.sorted boot_sortedB (pa_cons (pe_lc (own := [("_law_k", 8)]) (g := gName 8) (tt := tYes) (te := tTup (tCons (tOp (rIxL K) (tVar 3) (tVar 8)) (tCons (tVar 8) tNil))) (by rfl) nd (pi_range1 (by rfl) M.range (pa_cons (pe_callB call_len_seq (by rfl) M.len boot_len (pa_cons (pv 3) pa_nil)) pa_nil)) (blkOk_by (N := nSection) (sc := defScope sSection) (by decide +kernel))
          (fun _ _ _ _ _ => pg_name (i := 8) nd rfl (Or.inl rfl)) (fun _ _ _ _ _ => pts_nil) (fun _ _ _ _ _ => pe_tup (pa_cons (pe_ix (r := rIxL K) ix_list (pv 3) (pv 8) (fun _ _ => rfl)) (pa_cons (pv 8) pa_nil)))) pa_nil)))
        (pss_one (ps_ret (pe_tup (pa_cons (pe_lc (own := [("_law_tick", 11), ("_law_k", 8)]) (g := gTup K 2 (gCons (gName 11) (gCons (gName 8) gNil))) (tt := tYes) (te := tTup (tCons (tOp (rIxT K) (tOp (rIxL K) (tVar 2) (tVar 8)) (tC (.int 0))) (tCons (tVar 11) (tCons (tOp (rIxT K) (tOp (rIxL K) (tVar 2) (tVar 8)) (tC (.int 2))) tNil)))) (by rfl) nd (pi_list (pv 6)) (blkOk_by (N := nSection) (sc := defScope sSection) (by decide +kernel))
          (fun _ _ _ _ _ => pg_tup rfl (pgs_cons (pg_name (i := 11) nd rfl (Or.inl rfl)) (pgs_cons (pg_name (i := 8) nd rfl (Or.inl rfl)) pgs_nil))) (fun _ _ _ _ _ => pts_nil) (fun _ _ _ _ _ => pe_tup (pa_cons (pe_ix (r := rIxT K) ix_tup (pe_ix (r := rIxL K) ix_list (pv 2) (pv 8) (fun _ _ => rfl)) pe_int (fun _ _ => rfl)) (pa_cons (pv 11) (pa_cons (pe_ix (r := rIxT K) ix_tup (pe_ix (r := rIxL K) ix_list (pv 2) (pv 8) (fun _ _ => rfl)) pe_int (fun _ _ => rfl)) pa_nil))))) (pa_cons pe_dnewK pa_nil)))))) pss_nil)
      (pss_cons (ps_set (i := 7) nd rfl (.inr rfl) (pe_lc (own := [("_law_k", 8)]) (g := gName 8) (tt := tYes) (te := tCB (rMax K) (tCons (tOp rCat (tLst (tCons (tC (.int 0)) tNil)) (tSl (rSlL K) (tVar 3) tNoPart (tPart (tVar 8)))) tNil)) (by rfl) nd (pi_range1 (by rfl) M.range (pa_cons (pe_callB call_len_seq (by rfl) M.len boot_len (pa_cons (pv 3) pa_nil)) pa_nil)) (blkOk_by (N := nSection) (sc := defScope sSection) (by decide +kernel))
          (fun _ _ _ _ _ => pg_name (i := 8) nd rfl (Or.inl rfl)) (fun _ _ _ _ _ => pts_nil) (fun _ _ _ _ _ => pe_callB (cr_max rfl) (by rfl) hmx boot_max (pa_cons (pe_op op_cat (pe_lst (pa_cons pe_int pa_nil)) (pe_slice sl_list (pv 3) po_none (po_some (pv 8)))) pa_nil))))
      (pss_cons (ps_for PassesOwn.never rfl (pi_range1 (by rfl) M.range (pa_cons (pe_callB call_len_seq (by rfl) M.len boot_len (pa_cons (pv 2) pa_nil)) pa_nil)) (pg_name (i := 8) nd rfl (.inl rfl))
        (pss_cons (ps_setLc (i := 9) (own := [("_law_j", 13)]) (g := gName 13) (tt := tTest (tOp (rI0 fun i j => .bl (decide (j ≤ i))) (tOp (rIxL K) (tVar 3) (tVar 13)) (tOp (rIxL K) (tVar 7) (tVar 13)))) (te := tVar 13) (by rfl) nd rfl rfl (sw_true rfl rfl rfl (by decide +kernel)) (pi_range1 (by rfl) M.range (pa_cons (pv 8) pa_nil)) (blkOk_by (N := nSection) (sc := defScope sSection) (by decide +kernel))
          (fun _ _ _ _ _ => pg_name (i := 13) nd rfl (Or.inl rfl)) (fun _ _ _ _ _ => pts_one (pt_cmpR op_ge (pe_ix (r := rIxL K) ix_list (pv 3) (pv 13) (fun _ _ => rfl)) (pe_ix (r := rIxL K) ix_list (pv 7) (pv 13) (fun _ _ => rfl)) (nomark _))) (fun _ _ _ _ _ => pv 13))
        (pss_cons (ps_if (pt_cmpR op_lt (pe_ix ix_list (pv 3) (pv 8) (fun _ _ => rfl)) (pe_ix ix_list (pv 7) (pv 8) (fun _ _ => rfl)) (nomark _))
          (pss_one (ps_dput hc1 (pv 4) (pe_ix ix_tup (pe_ix ix_list (pv 2) (pv 8) (fun _ _ => rfl)) pe_int (fun _ _ => rfl)) (pe_ix ix_tup (pe_ix ix_list (pv 2) (pe_ix ix_list (pv 9) (pe_un un_neg pe_int) (fun _ _ => rfl)) (fun _ _ => rfl)) pe_int (fun _ _ => rfl)) rfl)) pss_nil)
        (pss_one (ps_expr (pe_bm PySem.F.plainAttrs_list PySem.F.slot_list_append PySem.F.type_list_append mt_append (pv 5) (pa_cons (pe_tup (pa_cons (pe_ix ix_tup (pe_ix ix_list (pv 2) (pv 8) (fun _ _ => rfl)) pe_int (fun _ _ => rfl)) (pa_cons (pe_callB (call_max2 rfl) (by rfl) hmx boot_max (pa_cons (pe_ix ix_list (pv 3) (pv 8) (fun _ _ => rfl)) (pa_cons (pe_ix ix_list (pv 7) (pv 8) (fun _ _ => rfl)) pa_nil))) (pa_cons (pe_ix ix_tup (pe_ix ix_list (pv 2) (pv 8) (fun _ _ => rfl)) pe_int (fun _ _ => rfl)) pa_nil)))) pa_nil)))))))
      (pss_one (ps_ret (pe_tup (pa_cons (pv 5) (pa_cons (pv 4) pa_nil)))))))), ?_⟩
    obtain ⟨ts, h1, h2, h3⟩ := id hE
    refine ⟨_, rfl, ea, rfl, ⟨_, SqL.of h1⟩, fun D hD => ?_⟩
    refine lc_it walk_list (fun i H1 => Same H H1 ∧ H1 D = some (.lst (((es.take i).map (ownT n)).map V.int)))
      ⟨fun p o e => by rw [upd_ne (ne_of_none e hD)]; exact e, upd_same⟩ (fun i H1 _ ⟨k1, _⟩ => SqL.of (k1 _ _ h1)) ?_ ?_
    · rintro i z H1 H2 hi ⟨k1, hD1⟩ ⟨e, hz⟩
      subst e
      obtain ⟨t, ht, rfl⟩ : ∃ t, ts[i]? = some t ∧ z = V.ref t := by
        rw [List.getElem?_map] at hz
        obtain ⟨t, z1, z2⟩ := Option.map_eq_some_iff.mp hz
        exact ⟨t, z1, z2.symm⟩
      have hlt : i < es.length := by
        have := (List.getElem?_eq_some_iff.mp ht).1
        rw [h2, List.length_map] at this
        exact this
      obtain ⟨en, hen⟩ : ∃ x, es[i]? = some x := ⟨_, List.getElem?_eq_getElem hlt⟩
      have hen3 := h3 i t (entV en) ht (by rw [List.getElem?_map, hen]; rfl)
      refine ⟨t, entV en, rfl, SqT.of (k1 _ _ hen3), rfl, _, _, rfl, _, _, rfl, _, _, rfl, rfl, ?_⟩
      refine ⟨rfl, yes_of ?_⟩
      refine ⟨_, rfl, _, rfl, _, rfl, _, _, rfl, rfl, Or.inr ⟨by omega, by omega⟩, _, _, rfl, rfl, _, hD1, ?_, fun p o e => ?_, ?_⟩
      · rw [List.length_map, List.length_map, List.length_take]
        exact small1000 (by omega)
      · rw [upd_ne (ne_of_none e hD)]
        exact k1 _ _ e
      · rw [upd_same, List.take_succ, hen]
        simp only [List.map_append]
        rfl
    · rintro H1 ⟨k1, hD1⟩
      have hel : (ts.map V.ref).length = es.length := by rw [List.length_map, h2, List.length_map]
      rw [hel, List.take_length] at hD1
      refine fun ld hld => ⟨Nat.zero_le _, fun xd hxd => ⟨by show 3 ≤ sizeLine; decide, fun tq htq => ?_⟩⟩
      have nD := fun (p : Addr) (h : H1 p = none) => ne_of_none hD1 h
      have S2 : Same H1 (upd (upd (upd H1 ld (.dK [])) xd (.lst [])) tq (.tup [.ref D, .ref ld, .ref xd])) := fun p o e => by
        have e1 : (upd H1 ld (.dK [])) p = some o := by rw [upd_ne (ne_of_none e hld)]; exact e
        have e2 : (upd (upd H1 ld (.dK [])) xd (.lst [])) p = some o := by rw [upd_ne (ne_of_none e1 hxd)]; exact e1
        rw [upd_ne (ne_of_none e2 htq)]
        exact e2
      have q1 : upd (upd (upd H1 ld (.dK [])) xd (.lst [])) tq (.tup [.ref D, .ref ld, .ref xd]) xd = some (.lst []) := by
        rw [upd_ne (ne_of_none upd_same htq)]
        exact upd_same
      have q2 : upd (upd (upd H1 ld (.dK [])) xd (.lst [])) tq (.tup [.ref D, .ref ld, .ref xd]) ld = some (.dK []) := by
        have e1 : (upd H1 ld (.dK [])) ld = some (.dK []) := upd_same
        have e2 : (upd (upd H1 ld (.dK [])) xd (.lst [])) ld = some (.dK []) := by rw [upd_ne (ne_of_none e1 hxd)]; exact e1
        rw [upd_ne (ne_of_none e2 htq)]
        exact e2
      have q3 : upd (upd (upd H1 ld (.dK [])) xd (.lst [])) tq (.tup [.ref D, .ref ld, .ref xd]) tq = some (.tup [.ref D, .ref ld, .ref xd]) := upd_same
      have nxH : H xd = none := by
        cases q : H xd with
        | none => rfl
        | some o =>
          have e1 : (upd H1 ld (.dK [])) xd = some o := by rw [upd_ne (ne_of_none (k1 _ _ q) hld)]; exact k1 _ _ q
          rw [hxd] at e1
          cases e1
      have hlH : H ld = none := by
        cases q : H ld with
        | none => rfl
        | some o =>
          rw [k1 _ _ q] at hld
          cases hld
      have nDl : D ≠ ld := nD ld hld
      have nDx : D ≠ xd := ne_of_none (show upd H1 ld (.dK []) D = some _ from by rw [upd_ne nDl]; exact hD1) hxd
      have nlx : ld ≠ xd := ne_of_none (show upd H1 ld (.dK []) ld = some (.dK []) from upd_same) hxd
      have S3 := k1.trans S2
      have hD3 := S2 _ _ hD1
      generalize upd (upd (upd H1 ld (.dK [])) xd (.lst [])) tq (.tup [.ref D, .ref ld, .ref xd]) = H3 at S3 q1 q2 q3 hD3 ⊢
      refine ⟨tq, _, rfl, SqT.of q3, rfl, _, _, rfl, _, _, rfl, _, _, rfl, rfl, ?_⟩
      refine ⟨_, rfl, rfl, _, rfl, ?_⟩
      have ek : decide (V.str (kindS b) = V.str "wide") = b := by cases b <;> decide +kernel
      rw [ek]
      have hol : ((es.map (ownT n)).map V.int).length = es.length := by rw [List.length_map, List.length_map]
      cases b with
      | true =>
        refine iteT ?_
        refine ⟨_, rfl, D, _, rfl, .inl (SqL.of hD3), (((es.map (ownT n)).map V.int).length : Nat), rfl, by omega, by omega, fun W hW => ?_⟩
        rw [Int.toNat_natCast, hol]
        have S4 : Same H3 (upd H3 W (.lst [])) := fun p o e => by rw [upd_ne (ne_of_none e hW)]; exact e
        refine lc_it walk_range (fun i H4 => Same H3 H4 ∧ TupsAt H4 W ((es.take i).zipIdx.map fun q => [V.int (ownT n q.1), V.int ((q.2 : Nat) : Int)]))
          ⟨S4, tups_nil upd_same⟩ (fun _ _ _ _ => True.intro) ?_ ?_
        · rintro i z H4 H5 hi ⟨k4, T4⟩ ⟨e, ez⟩
          have ez2 : z = V.int ((i : Nat) : Int) := by
            rw [ez]
            show V.int (0 + ((i : Nat) : Int)) = _
            rw [Int.zero_add]
          clear ez
          subst e ez2
          obtain ⟨en, hen⟩ : ∃ x, es[i]? = some x := ⟨_, List.getElem?_eq_getElem hi⟩
          have hown : ((es.map (ownT n)).map V.int)[i]? = some (V.int (ownT n en)) := by rw [List.getElem?_map, List.getElem?_map, hen]; rfl
          obtain ⟨us, u1, u2, u3⟩ := id T4
          refine ⟨rfl, yes_of ?_⟩
          refine ⟨_, rfl, _, rfl, D, _, _, _, rfl, rfl, SqL.of (k4 _ _ hD3), atI_nat hown, _, rfl, by show 2 ≤ sizeLine; decide, fun t ht => ?_⟩
          refine ⟨us.map V.ref, by rw [upd_ne (ne_of_none u1 ht)]; exact u1, ?_, fun p o e => ?_, ?_⟩
          · rw [List.length_map, u2, List.length_map, List.length_zipIdx, List.length_take]
            exact small1000 (by omega)
          · have e4 := k4 _ _ e
            rw [upd_ne (ne_of_none e hW), upd_ne (ne_of_none e4 ht)]
            exact e4
          · have := tups_push u1 u2 u3 ht [V.int (ownT n en), V.int ((i : Nat) : Int)]
            have e2 : (es.take (i + 1)).zipIdx.map (fun q => [V.int (ownT n q.1), V.int ((q.2 : Nat) : Int)]) = (es.take i).zipIdx.map (fun q => [V.int (ownT n q.1), V.int ((q.2 : Nat) : Int)]) ++ [[V.int (ownT n en), V.int ((i : Nat) : Int)]] := by
              rw [List.take_succ, hen, List.zipIdx_append, List.map_append, List.length_take, Nat.min_eq_left (Nat.le_of_lt hi)]
              simp
            rw [e2]
            exact this
        · rintro H4 ⟨k4, T4⟩
          rw [List.take_length] at T4
          obtain ⟨us, u1, u2, u3⟩ := T4
          rw [List.length_map, List.length_zipIdx] at u2
          have hzl : es.zipIdx.length = us.length := by rw [List.length_zipIdx, u2]
          have uT : ∀ (i : Nat) (t : Addr) (q : Ent × Nat), us[i]? = some t → es.zipIdx[i]? = some q → H4 t = some (.tup [.int (ownT n q.1), .int ((q.2 : Nat) : Int)]) := fun i t q e1 e2 => u3 i t _ e1 (by rw [List.getElem?_map, e2]; rfl)
          have zI : ∀ (i : Nat) (q : Ent × Nat), es.zipIdx[i]? = some q → q.2 = i ∧ es[i]? = some q.1 := fun i q e => by
            rw [List.getElem?_zipIdx] at e
            obtain ⟨x, e1, e2⟩ := Option.map_eq_some_iff.mp e
            rw [← e2]
            exact ⟨by simp, e1⟩
          refine ⟨W, us.map V.ref, pairK H4, rfl, SqL.of u1, fun x hx => ?_, fun ys p hs hst hp => ?_⟩
          · obtain ⟨t, ht, rfl⟩ := List.mem_map.mp hx
            obtain ⟨i, hi⟩ := List.mem_iff_getElem?.mp ht
            obtain ⟨q, hq⟩ : ∃ q, es.zipIdx[i]? = some q := ⟨_, List.getElem?_eq_getElem (by rw [hzl]; exact (List.getElem?_eq_some_iff.mp hi).1)⟩
            have := uT i t q hi hq
            exact ⟨t, rfl, by rw [pairK_of this]; exact this⟩
          have hys := sorted_pairs_isort hs hst fun i x hx => by
            rw [List.getElem?_map] at hx
            obtain ⟨t, ht, rfl⟩ := Option.map_eq_some_iff.mp hx
            obtain ⟨q, hq⟩ : ∃ q, es.zipIdx[i]? = some q := ⟨_, List.getElem?_eq_getElem (by rw [hzl]; exact (List.getElem?_eq_some_iff.mp ht).1)⟩
            rw [pairK_of (uT i t q ht hq), (zI i q hq).1]
          have hzm : ∀ q ∈ es.zipIdx.zip us, H4 q.2 = some (.tup [.int (ownT n q.1.1), .int ((q.1.2 : Nat) : Int)]) ∧ es[q.1.2]? = some q.1.1 := fun q hq => by
            obtain ⟨i, hi⟩ := List.mem_iff_getElem?.mp hq
            obtain ⟨e1, e2⟩ := List.getElem?_zip_eq_some.mp hi
            refine ⟨uT i _ _ e2 e1, ?_⟩
            rw [(zI i _ e1).1]
            exact (zI i _ e1).2
          have hus : us.map V.ref = (es.zipIdx.zip us).map fun q => V.ref q.2 := by
            conv => lhs; rw [← List.map_snd_zip (l₁ := es.zipIdx) (l₂ := us) (by omega)]
            rw [List.map_map]
            rfl
          have hyL : ys = (sortBy (fun q : (Ent × Nat) × Addr => ownT n q.1.1) (es.zipIdx.zip us)).map fun q => V.ref q.2 := by
            rw [hys, hus, List.map_map]
            have e1 : ((es.zipIdx.zip us).map ((fun x => ((pairK H4 x).1, x)) ∘ fun q => V.ref q.2)) = ((es.zipIdx.zip us).map fun q => (ownT n q.1.1, q)).map fun r => (r.1, V.ref r.2.2) := by
              rw [List.map_map]
              refine List.map_congr_left fun q hq => ?_
              show ((pairK H4 (V.ref q.2)).1, V.ref q.2) = (ownT n q.1.1, V.ref q.2)
              rw [pairK_of (hzm q hq).1]
            rw [e1, isort_map (fun q : (Ent × Nat) × Addr => V.ref q.2), List.map_map]
            unfold sortBy
            rw [List.map_map]
            rfl
          have hLm : ∀ q ∈ sortBy (fun q : (Ent × Nat) × Addr => ownT n q.1.1) (es.zipIdx.zip us), q ∈ es.zipIdx.zip us := fun q hq => (sortBy_perm _ _).mem_iff.mp hq
          have hLo : (sortBy (fun q : (Ent × Nat) × Addr => ownT n q.1.1) (es.zipIdx.zip us)).map (fun q => (q.1.1.1, ownT n q.1.1, q.1.1.2.2)) = outW n es := by
            have e1 : (es.zipIdx.zip us).map (fun q => q.1.1) = es := by
              have h := List.map_fst_zip (l₁ := es.zipIdx) (l₂ := us) (by omega)
              have h2 : es.zipIdx.map Prod.fst = es := by simp
              have h4 : (es.zipIdx.zip us).map (fun q => q.1.1) = ((es.zipIdx.zip us).map Prod.fst).map Prod.fst := by rw [List.map_map]; rfl
              rw [h4, h, h2]
            have e2 := sortBy_map (fun q : (Ent × Nat) × Addr => q.1.1) (fun q => ownT n q.1.1) (ownT n) (es.zipIdx.zip us) (fun _ _ => rfl)
            unfold outW
            rw [← congrArg (sortBy (ownT n)) e1, e2, List.map_map]
            rfl
          have hLl : (sortBy (fun q : (Ent × Nat) × Addr => ownT n q.1.1) (es.zipIdx.zip us)).length ≤ 10 := by
            rw [(sortBy_perm _ _).length_eq, List.length_zip]
            omega
          generalize sortBy (fun q : (Ent × Nat) × Addr => ownT n q.1.1) (es.zipIdx.zip us) = L at hyL hLm hLo hLl
          rw [hyL]
          have S5 : Same H4 (upd H4 p (.lst (L.map fun q => V.ref q.2))) := fun b o e => by rw [upd_ne (ne_of_none e hp)]; exact e
          have S35 := S3.trans (k4.trans S5)
          have hp5 : upd H4 p (.lst (L.map fun q => V.ref q.2)) p = some (.lst (L.map fun q => V.ref q.2)) := upd_same
          have hL5 : ∀ q ∈ L, (upd H4 p (.lst (L.map fun q => V.ref q.2))) q.2 = some (.tup [.int (ownT n q.1.1), .int ((q.1.2 : Nat) : Int)]) := fun q hq => S5 _ _ (hzm q (hLm q hq)).1
          generalize upd H4 p (.lst (L.map fun q => V.ref q.2)) = H5 at S35 hp5 hL5 ⊢
          refine ⟨_, rfl, p, rfl, ⟨_, SqL.of hp5⟩, fun O hO => ?_⟩
          refine lc_it walk_list (fun i H6 => Same H5 H6 ∧ TupsAt H6 O (((L.take i).map fun q => (q.1.1.1, ownT n q.1.1, q.1.1.2.2)).map entV))
            ⟨fun b o e => by rw [upd_ne (ne_of_none e hO)]; exact e, tups_nil upd_same⟩ (fun i H6 _ ⟨k6, _⟩ => SqL.of (k6 _ _ hp5)) ?_ ?_
          · rintro i z H6 H7 hi ⟨k6, T6⟩ ⟨e, hz⟩
            subst e
            obtain ⟨q, hq, rfl⟩ : ∃ q, L[i]? = some q ∧ z = V.ref q.2 := by
              rw [List.getElem?_map] at hz
              obtain ⟨t, z1, z2⟩ := Option.map_eq_some_iff.mp hz
              exact ⟨t, z1, z2.symm⟩
            have hmq := List.mem_of_getElem? hq
            have hqe := (hzm q (hLm q hmq)).2
            obtain ⟨t, ht⟩ : ∃ t, ts[q.1.2]? = some t := ⟨_, List.getElem?_eq_getElem (by rw [h2, List.length_map]; exact (List.getElem?_eq_some_iff.mp hqe).1)⟩
            have htv := k6 _ _ (S35 _ _ (h3 q.1.2 t (entV q.1.1) ht (by rw [List.getElem?_map, hqe]; rfl)))
            have hea := k6 _ _ (S35 _ _ h1)
            obtain ⟨vs, v1, v2, v3⟩ := id T6
            refine ⟨q.2, _, rfl, SqT.of (k6 _ _ (hL5 q hmq)), rfl, _, _, rfl, _, _, rfl, rfl, ?_⟩
            refine ⟨rfl, yes_of ?_⟩
            refine ⟨_, rfl, _, rfl, ea, _, _, _, rfl, rfl, SqL.of hea, atI_nat (map_at V.ref ht), t, _, _, _, rfl, rfl, SqT.of htv, rfl, ?_⟩
            refine ⟨_, rfl, _, rfl, _, rfl, ea, _, _, _, rfl, rfl, SqL.of hea, atI_nat (map_at V.ref ht), t, _, _, _, rfl, rfl, SqT.of htv, rfl, by show 3 ≤ sizeLine; decide, fun x hx => ?_⟩
            refine ⟨vs.map V.ref, by rw [upd_ne (ne_of_none v1 hx)]; exact v1, ?_, fun b o e => ?_, ?_⟩
            · rw [List.length_map, v2, List.length_map, List.length_map, List.length_take]
              exact small1000 (by omega)
            · have e4 := k6 _ _ e
              rw [upd_ne (ne_of_none e hO), upd_ne (ne_of_none e4 hx)]
              exact e4
            · have := tups_push v1 v2 v3 hx (entV (q.1.1.1, ownT n q.1.1, q.1.1.2.2))
              have e2 : ((L.take (i + 1)).map fun q => (q.1.1.1, ownT n q.1.1, q.1.1.2.2)).map entV = ((L.take i).map fun q => (q.1.1.1, ownT n q.1.1, q.1.1.2.2)).map entV ++ [entV (q.1.1.1, ownT n q.1.1, q.1.1.2.2)] := by
                rw [List.take_succ, hq, List.map_append, List.map_append]
                rfl
              rw [e2]
              exact this
          · rintro H6 ⟨k6, T6⟩
            rw [List.length_map, List.take_length, hLo] at T6
            refine fun l2 hl2 => ⟨by show 2 ≤ sizeLine; decide, fun t ht => ?_⟩
            have S6 : Same H6 (upd H6 l2 (.dK [])) := fun b o e => by rw [upd_ne (ne_of_none e hl2)]; exact e
            have S7 : Same (upd H6 l2 (.dK [])) (upd (upd H6 l2 (.dK [])) t (.tup [.ref O, .ref l2])) := fun b o e => by rw [upd_ne (ne_of_none e ht)]; exact e
            exact k _ t O l2 [] (S35.trans (k6.trans (S6.trans S7))) upd_same (T6.same (S6.trans S7)) (S7 _ _ upd_same) (fun m => rfl) (none_back S35 hO) (none_back (S35.trans k6) hl2)
      | false =>
        refine iteF ?_
        refine ⟨_, rfl, D, _, rfl, .inl (SqL.of hD3), (((es.map (ownT n)).map V.int).length : Nat), rfl, by omega, by omega, fun W hW => ?_⟩
        rw [Int.toNat_natCast, hol]
        have S4 : Same H3 (upd H3 W (.lst [])) := fun p o e => by rw [upd_ne (ne_of_none e hW)]; exact e
        refine lc_it walk_range (fun i H4 => Same H3 H4 ∧ H4 W = some (.lst (((List.range i).map (topL n es)).map V.int)))
          ⟨S4, upd_same⟩ (fun _ _ _ _ => True.intro) ?_ ?_
        · rintro i z H4 H5 hi ⟨k4, T4⟩ ⟨e, ez⟩
          have ez2 : z = V.int ((i : Nat) : Int) := by
            rw [ez]
            show V.int (0 + ((i : Nat) : Int)) = _
            rw [Int.zero_add]
          clear ez
          subst e ez2
          refine ⟨rfl, yes_of ?_⟩
          refine ⟨by show 1 ≤ sizeLine; decide, fun a ha => ?_⟩
          have e4 := k4 _ _ hD3
          have s5 : Same H5 (upd H5 a (.lst [.int 0])) := fun b o e => by rw [upd_ne (ne_of_none e ha)]; exact e
          refine ⟨_, rfl, _, rfl, _, rfl, D, _, rfl, SqL.of (s5 _ _ e4), fun c hc => ?_⟩
          rw [cut_to (by rw [hol]; omega)]
          have s6 : Same (upd H5 a (.lst [.int 0])) (upd (upd H5 a (.lst [.int 0])) c (.lst (((es.map (ownT n)).map V.int).take i))) := fun b o e => by rw [upd_ne (ne_of_none e hc)]; exact e
          refine ⟨a, c, _, _, rfl, rfl, s6 _ _ upd_same, upd_same, ?_, fun d hd => ?_⟩
          · rw [List.length_take, hol]
            exact Nat.le_of_lt (small1000 (by show 1 + min i es.length ≤ 1000; omega))
          have s7 : Same (upd (upd H5 a (.lst [.int 0])) c (.lst (((es.map (ownT n)).map V.int).take i))) (upd (upd (upd H5 a (.lst [.int 0])) c (.lst (((es.map (ownT n)).map V.int).take i))) d (.lst ([.int 0] ++ ((es.map (ownT n)).map V.int).take i))) := fun b o e => by rw [upd_ne (ne_of_none e hd)]; exact e
          have S57 := s5.trans (s6.trans s7)
          refine ⟨d, 0 :: (es.take i).map (ownT n), rfl, SqL.of (by rw [upd_same, ← List.map_take, ← List.map_take]; rfl), by simp, fun m hm hmx => ?_⟩
          have em := topL_is hm hmx
          refine ⟨_, S57 _ _ T4, ?_, fun p o e => ?_, ?_⟩
          · rw [List.length_map, List.length_map, List.length_range]
            exact small1000 (by omega)
          · rw [upd_ne (ne_of_none e hW)]
            exact S57 _ _ (k4 _ _ e)
          · rw [upd_same, em, List.range_succ, List.map_append, List.map_append]
            rfl
        · rintro H4 ⟨k4, T4⟩
          have nWx : W ≠ xd := (ne_of_none q1 hW).symm
          have nWl : W ≠ ld := (ne_of_none q2 hW).symm
          refine ⟨_, rfl, ea, _, rfl, .inl (SqL.of (k4 _ _ (S3 _ _ h1))), (((ts.map V.ref).length : Nat) : Int), rfl, by omega, by omega, ?_⟩
          rw [Int.toNat_natCast, hel]
          refine for_it walk_range (fun i σ H6 => ∃ (v8 v9 : Option V) (kv : List (Key × V)), σ = [some (.str (kindS false)), some (.int ((n : Nat) : Int)), some (.ref ea), some (.ref D), some (.ref ld), some (.ref xd), none, some (.ref W), v8, v9, none, none, none, none] ∧
              Same H H6 ∧ H6 D = some (.lst ((es.map (ownT n)).map V.int)) ∧ H6 W = some (.lst (((List.range es.length).map (topL n es)).map V.int)) ∧ H6 ld = some (.dK kv) ∧ kv.length ≤ i ∧ TupsAt H6 xd ((outN n es i).map entV) ∧ (outN n es i).length = i ∧ LdD kv (rowN n es i))
            ⟨none, none, [], rfl, S3.trans k4, k4 _ _ hD3, T4, k4 _ _ q2, Nat.le_refl _, tups_nil (k4 _ _ q1), rfl, fun m => rfl⟩ (fun _ _ _ _ _ => True.intro) ?_ ?_
          · rintro i z σ H6 H7 hi ⟨v8, v9, kv, rfl, k6, hD6, hW6, hl6, lkv, T6, ol6, hLd⟩ ⟨e, ez⟩
            have ez2 : z = V.int ((i : Nat) : Int) := by
              rw [ez]
              show V.int (0 + ((i : Nat) : Int)) = _
              rw [Int.zero_add]
            clear ez
            subst e ez2
            obtain ⟨en, hen⟩ : ∃ x, es[i]? = some x := ⟨_, List.getElem?_eq_getElem hi⟩
            refine ⟨_, rfl, ((i : Nat) : Int), rfl, by omega, by omega, fun F hF => ?_⟩
            rw [Int.toNat_natCast]
            have nFD := ne_of_none hD6 hF
            refine lc_it walk_range (fun j H8 => Same H7 H8 ∧ ∃ fs : List Nat, H8 F = some (.lst (fs.map fun (q : Nat) => V.int (q : Int))) ∧ (∀ q ∈ fs, q < j) ∧ fs.length ≤ j ∧ (∀ q x, q < j → es[q]? = some x → topL n es q ≤ ownT n x → q ∈ fs) ∧ fs = frees n es j)
              ⟨fun b o e => by rw [upd_ne (ne_of_none e hF)]; exact e, [], upd_same, fun q hq => (nomatch hq), Nat.le_refl _, fun q x hq => absurd hq (Nat.not_lt_zero _), rfl⟩ (fun _ _ _ _ => True.intro) ?_ ?_
            · rintro j z H8 H9 hj ⟨k8, fs, f1, f2, f3, f4, f5⟩ ⟨e, ez⟩
              have ez2 : z = V.int ((j : Nat) : Int) := by
                rw [ez]
                show V.int (0 + ((j : Nat) : Int)) = _
                rw [Int.zero_add]
              clear ez
              subst e ez2
              obtain ⟨ej, hej⟩ : ∃ x, es[j]? = some x := ⟨_, List.getElem?_eq_getElem (by omega)⟩
              have ho : ((es.map (ownT n)).map V.int)[j]? = some (V.int (ownT n ej)) := by rw [List.getElem?_map, List.getElem?_map, hej]; rfl
              have ht : (((List.range es.length).map (topL n es)).map V.int)[j]? = some (V.int (topL n es j)) := by rw [List.getElem?_map, List.getElem?_map, List.getElem?_range (by omega)]; rfl
              refine ⟨rfl, ?_⟩
              refine ⟨_, rfl, _, rfl, D, _, _, _, rfl, rfl, SqL.of (k8 _ _ hD6), atI_nat ho, _, rfl, _, rfl, W, _, _, _, rfl, rfl, SqL.of (k8 _ _ hW6), atI_nat ht, _, _, rfl, rfl, _, rfl, ?_⟩
              by_cases hc : topL n es j ≤ ownT n ej
              · rw [decide_eq_true hc]
                refine iteT ⟨_, rfl, _, f1, ?_, fun b o e => ?_, fs ++ [j], ?_, fun q hq => ?_, ?_, fun q x hq h1 h2 => ?_, by rw [frees_succ hej, if_pos hc, f5]⟩
                · rw [List.length_map]
                  exact small1000 (by omega)
                · rw [upd_ne (ne_of_none e hF)]
                  exact k8 _ _ e
                · rw [upd_same, List.map_append]
                  rfl
                · rcases List.mem_append.mp hq with hq | hq
                  · have := f2 q hq
                    omega
                  · rw [List.mem_singleton.mp hq]
                    omega
                · rw [List.length_append]
                  show fs.length + 1 ≤ j + 1
                  omega
                · by_cases hqj : q < j
                  · exact List.mem_append_left _ (f4 q x hqj h1 h2)
                  · have : q = j := by omega
                    rw [this]
                    exact List.mem_append_right _ (List.mem_singleton.mpr rfl)
              · rw [decide_eq_false hc]
                refine iteF ⟨k8, fs, f1, fun q hq => by have := f2 q hq; omega, by omega, fun q x hq h1 h2 => ?_, by rw [frees_succ hej, if_neg hc, f5]⟩
                by_cases hqj : q < j
                · exact f4 q x hqj h1 h2
                · have : q = j := by omega
                  subst this
                  rw [hej] at h1
                  cases Option.some.inj h1
                  exact absurd h2 hc
            · rintro H8 ⟨k8, fs, f1, f2, f3, f4, f5⟩
              have hea8 := k8 _ _ (k6 _ _ h1)
              have hD8 := k8 _ _ hD6
              have hW8 := k8 _ _ hW6
              have hl8 := k8 _ _ hl6
              have T8 := T6.same k8
              have tsat : ∀ q x, es[q]? = some x → ∃ t, ts[q]? = some t ∧ H t = some (.tup (entV x)) := fun q x e => by
                obtain ⟨t, ht⟩ : ∃ t, ts[q]? = some t := ⟨_, List.getElem?_eq_getElem (by rw [h2, List.length_map]; exact (List.getElem?_eq_some_iff.mp e).1)⟩
                exact ⟨t, ht, h3 q t (entV x) ht (by rw [List.getElem?_map, e]; rfl)⟩
              obtain ⟨t, ht, htv⟩ := tsat i en hen
              have ho : ((es.map (ownT n)).map V.int)[i]? = some (V.int (ownT n en)) := by rw [List.getElem?_map, List.getElem?_map, hen]; rfl
              have htp : (((List.range es.length).map (topL n es)).map V.int)[i]? = some (V.int (topL n es i)) := by rw [List.getElem?_map, List.getElem?_map, List.getElem?_range (by omega)]; rfl
              have S8 := k6.trans k8
              refine ⟨_, rfl, _, rfl, D, _, _, _, rfl, rfl, SqL.of hD8, atI_nat ho, _, rfl, _, rfl, W, _, _, _, rfl, rfl, SqL.of hW8, atI_nat htp, _, _, rfl, rfl, _, rfl, ?_⟩
              by_cases hc : ownT n en < topL n es i
              rw [decide_eq_true hc]
              refine iteT ?_
              have h0 : 0 ≤ ownT n en := by
                obtain ⟨g1, g2, _⟩ := hd en (List.mem_of_getElem? hen)
                have := Int.mul_nonneg g2 (Int.natCast_nonneg n)
                unfold ownT
                omega
              obtain ⟨q, x, hq, hx, hqx⟩ := free_ne h0 hc
              have hne : fs ≠ [] := fun z => by
                have := f4 q x hq hx hqx
                rw [z] at this
                cases this
              obtain ⟨fs', r, efs⟩ : ∃ fs' r, fs = fs' ++ [r] := ⟨_, _, (List.dropLast_concat_getLast hne).symm⟩
              have hr := f2 r (by rw [efs]; simp)
              obtain ⟨er, her⟩ : ∃ x, es[r]? = some x := ⟨_, List.getElem?_eq_getElem (by omega)⟩
              obtain ⟨tr, htr, htrv⟩ := tsat r er her
              rw [efs, List.map_append] at f1
              refine ⟨_, rfl, _, rfl, _, rfl, F, _, _, V.int ((r : Nat) : Int), rfl, rfl, SqL.of f1, atI_last _ _, ea, _, _, _, rfl, rfl, SqL.of hea8, atI_nat (map_at V.ref htr), tr, _, _, _, rfl, rfl, SqT.of (S8 _ _ htrv), rfl, _, rfl, _, rfl, _, rfl, ea, _, _, _, rfl, rfl, SqL.of hea8, atI_nat (map_at V.ref ht), t, _, _, _, rfl, rfl, SqT.of (S8 _ _ htv), rfl, ld, _, rfl, DPut.k (k := (Sum.inr en.1 : Key)) hl8 (small1000 (by omega)), ?_⟩
              have S9 : Same H (upd H8 ld (.dK (putK kv (Sum.inr en.1 : Key) (.str er.1)))) := fun b o e => by rw [upd_ne (ne_of_none e hlH)]; exact S8 _ _ e
              have hD9 : upd H8 ld (.dK (putK kv (Sum.inr en.1 : Key) (.str er.1))) D = _ := (upd_ne nDl).trans hD8
              have hW9 : upd H8 ld (.dK (putK kv (Sum.inr en.1 : Key) (.str er.1))) W = _ := (upd_ne nWl).trans hW8
              have hl9 : upd H8 ld (.dK (putK kv (Sum.inr en.1 : Key) (.str er.1))) ld = some (.dK (putK kv (Sum.inr en.1 : Key) (.str er.1))) := upd_same
              have lkv9 : (putK kv (Sum.inr en.1 : Key) (.str er.1)).length ≤ i + 1 := Nat.le_trans (length_putK _ _ _) (by omega)
              have hnw : (rowX n es i en).1 ∉ (rowN n es i).map (·.1) := by
                rw [rowN_names i (Nat.le_of_lt hi)]
                exact ents_new hnds hen
              have hLd9 : LdD (putK kv (Sum.inr en.1 : Key) (.str er.1)) (rowN n es (i + 1)) := by
                rw [rowN_succ hen]
                refine LdD.put (r := rowX n es i en) hLd hnw ?_
                show (if ownT n en < topL n es i then ldrX n es i else none) = _
                rw [if_pos hc]
                unfold ldrX
                rw [← f5, efs, List.getLast?_append]
                show (es[r]?).map (·.1) = _
                rw [her]
                rfl
              have T9 : TupsAt (upd H8 ld (.dK (putK kv (Sum.inr en.1 : Key) (.str er.1)))) xd ((outN n es i).map entV) := by
                obtain ⟨us, u1, u2, u3⟩ := T8
                exact ⟨us, (upd_ne nlx.symm).trans u1, u2, fun j b v e1 e2 => (upd_ne (ne_of (u3 j b v e1 e2) hl8 (by intro z; cases z))).trans (u3 j b v e1 e2)⟩
              generalize putK kv (Sum.inr en.1 : Key) (.str er.1) = kv9 at *
              generalize upd H8 ld (.dK kv9) = H9 at *
              clear f1
              rotate_left
              rw [decide_eq_false hc]
              refine iteF ?_
              obtain ⟨H9, e9⟩ : ∃ h, h = H8 := ⟨_, rfl⟩
              subst e9
              obtain ⟨kv9, e9⟩ : ∃ h, h = kv := ⟨_, rfl⟩
              subst e9
              have S9 := S8
              have hD9 := hD8
              have hW9 := hW8
              have hl9 := hl8
              have lkv9 : kv9.length ≤ i + 1 := by omega
              have hLd9 : LdD kv9 (rowN n es (i + 1)) := by
                rw [rowN_succ hen]
                refine LdD.skip (r := rowX n es i en) hLd (by rw [rowN_names i (Nat.le_of_lt hi)]; exact ents_new hnds hen) ?_
                show (if ownT n en < topL n es i then ldrX n es i else none) = none
                rw [if_neg hc]
              have T9 := T8
              rotate_left
              all_goals
                have hea9 := S9 _ _ h1
                have htv9 := S9 _ _ htv
                obtain ⟨us, x1, x2, x3⟩ := id T9
                have emx : (if topL n es i > ownT n en then topL n es i else ownT n en) = max (ownT n en) (topL n es i) := by split <;> omega
                have eon : outN n es (i + 1) = outN n es i ++ [(en.1, max (ownT n en) (topL n es i), en.2.2)] := by
                  show (match es[i]? with
                    | some e => outN n es i ++ [(e.1, max (ownT n e) (topL n es i), e.2.2)]
                    | none => outN n es i) = _
                  rw [hen]
                refine ⟨_, rfl, .inl ⟨rfl, _, SqL.of x1⟩, _, rfl, _, rfl, ea, _, _, _, rfl, rfl, SqL.of hea9, atI_nat (map_at V.ref ht), t, _, _, _, rfl, rfl, SqT.of htv9, rfl, ?_⟩
                refine ⟨_, rfl, _, rfl, D, _, _, _, rfl, rfl, SqL.of hD9, atI_nat ho, _, rfl, _, rfl, W, _, _, _, rfl, rfl, SqL.of hW9, atI_nat htp, _, _, rfl, ?_⟩
                refine ⟨_, rfl, _, rfl, ea, _, _, _, rfl, rfl, SqL.of hea9, atI_nat (map_at V.ref ht), t, _, _, _, rfl, rfl, SqT.of htv9, rfl, by show 3 ≤ sizeLine; decide, fun tt htt => ?_⟩
                rw [emx]
                have nxt : xd ≠ tt := ne_of_none x1 htt
                refine ⟨xd, _, .ref tt, rfl, rfl, by rw [upd_ne nxt]; exact x1, by rw [List.length_map, x2, List.length_map, ol6]; exact small1000 (by omega), ?_⟩
                have hup : Same H9 (upd H9 tt (.tup [.str en.1, .int (max (ownT n en) (topL n es i)), .int en.2.2])) := fun b o e => by rw [upd_ne (ne_of_none e htt)]; exact e
                refine ⟨_, _, kv9, rfl, fun b o e => ?_, ?_, ?_, ?_, lkv9, ?_, by rw [eon, List.length_append, ol6]; rfl, hLd9⟩
                · rw [upd_ne (ne_of_none e nxH)]
                  exact hup _ _ (S9 _ _ e)
                · rw [upd_ne nDx]
                  exact hup _ _ hD9
                · rw [upd_ne nWx]
                  exact hup _ _ hW9
                · rw [upd_ne nlx]
                  exact hup _ _ hl9
                · rw [eon, List.map_append]
                  exact tups_push x1 x2 x3 htt _
          · rintro σ H6 ⟨v8, v9, kv, rfl, k6, hD6, hW6, hl6, lkv, T6, ol6, hLd⟩
            refine ⟨_, rfl, _, rfl, by show 2 ≤ sizeLine; decide, fun t ht => ?_⟩
            have S7 : Same H6 (upd H6 t (.tup [.ref xd, .ref ld])) := fun b o e => by rw [upd_ne (ne_of_none e ht)]; exact e
            exact k _ t xd ld kv (k6.trans S7) upd_same (T6.same S7) (S7 _ _ hl6) (fun m => by rw [hLd m]; show _ = (leadOf (rowN n es es.length) m).map V.str; unfold leadOf; cases look (rowN n es es.length) m <;> rfl) nxH hlH
end
end Sl

set_option Elab.async false
set_option linter.all false
set_option maxRecDepth 100000
set_option maxHeartbeats 1000000
namespace Sl
open PySem PySem.Spec L2 OwnR LamX
/-! ### the law's way to drive is the program's -/
def entP (pace : Str → Int) (p : Pl Str) (n : Str) : Ent := (n, p.tk n, pace n)
def entsP (pace : Str → Int) (p : Pl Str) : List Ent := p.ord.map (entP pace p)
theorem topL_zero (n : Nat) (es : List Ent) : topL n es 0 = 0 := rfl
theorem topL_succ {n : Nat} {es : List Ent} {j : Nat} {e : Ent} (h : es[j]? = some e) : topL n es (j + 1) = max (topL n es j) (ownT n e) := by
  unfold topL
  rw [List.take_add_one, h, List.map_append, List.foldl_append]
  rfl
theorem outN_rows {pace : Str → Int} {p : Pl Str} {n : Nat} : ∀ j, j ≤ p.ord.length → outN n (entsP pace p) j = (rowN n (entsP pace p) j).map (fun r => (r.1, r.2.1, pace r.1)) := by
  intro j
  induction j with
  | zero => intro _; rfl
  | succ j ih =>
    intro hj
    obtain ⟨m, hm⟩ : ∃ m, p.ord[j]? = some m := ⟨_, List.getElem?_eq_getElem (by omega)⟩
    have he : (entsP pace p)[j]? = some (entP pace p m) := by unfold entsP; rw [List.getElem?_map, hm]; rfl
    have e1 : outN n (entsP pace p) (j + 1) = outN n (entsP pace p) j ++ [(m, max (freeP pace p n m) (topL n (entsP pace p) j), pace m)] := by
      show (match (entsP pace p)[j]? with
        | some e => outN n (entsP pace p) j ++ [(e.1, max (ownT n e) (topL n (entsP pace p) j), e.2.2)]
        | none => outN n (entsP pace p) j) = _
      rw [he]
      rfl
    rw [e1, ih (by omega), rowN_succ he, List.map_append]
    rfl
theorem rowN_foll {pace : Str → Int} {p : Pl Str} {n : Nat} (h0 : ∀ m ∈ p.ord, 0 ≤ freeP pace p n m) : ∀ j, j ≤ p.ord.length →
    rowN n (entsP pace p) j = foll (freeP pace p n) (p.ord.take j) ∧
    (∀ r, (foll (freeP pace p n) (p.ord.take j)).getLast? = some r → r.2.1 = topL n (entsP pace p) j ∧ ldrX n (entsP pace p) j = some (r.2.2.getD r.1)) ∧ 0 ≤ topL n (entsP pace p) j := by
  intro j
  induction j with
  | zero => intro _; exact ⟨rfl, fun r e => (nomatch e), Int.le_refl _⟩
  | succ j ih =>
    intro hj
    obtain ⟨i1, i2, i3⟩ := ih (by omega)
    obtain ⟨m, hm⟩ : ∃ m, p.ord[j]? = some m := ⟨_, List.getElem?_eq_getElem (by omega)⟩
    have he : (entsP pace p)[j]? = some (entP pace p m) := by unfold entsP; rw [List.getElem?_map, hm]; rfl
    have ho : ownT n (entP pace p m) = freeP pace p n m := rfl
    have hp := h0 m (List.mem_of_getElem? hm)
    have et : p.ord.take (j + 1) = p.ord.take j ++ [m] := by rw [List.take_add_one, hm]; rfl
    have e2 := topL_succ (n := n) he
    have efr := frees_succ (n := n) he
    rw [ho] at e2 efr
    have hlen : (foll (freeP pace p n) (p.ord.take j)).length = j := by
      rw [foll_length, List.length_take]
      omega
    rw [et, foll_snoc, rowN_succ he, i1, e2]
    have ehd : rowX n (entsP pace p) j (entP pace p m) = (m, max (freeP pace p n m) (topL n (entsP pace p) j), if freeP pace p n m < topL n (entsP pace p) j then ldrX n (entsP pace p) j else none) := rfl
    rw [ehd]
    have hdl : ∀ (r : RowT Str), (foll (freeP pace p n) (p.ord.take j) ++ [r]).getLast? = some r := fun r => by
      rw [List.getLast?_append]
      rfl
    have lfree : topL n (entsP pace p) j ≤ freeP pace p n m → ldrX n (entsP pace p) (j + 1) = some m := fun c => by
      unfold ldrX
      rw [efr, if_pos c, List.getLast?_append]
      show ((entsP pace p)[j]?).map (·.1) = _
      rw [he]
      rfl
    have lheld : ¬ topL n (entsP pace p) j ≤ freeP pace p n m → ldrX n (entsP pace p) (j + 1) = ldrX n (entsP pace p) j := fun c => by
      unfold ldrX
      rw [efr, if_neg c]
    generalize foll (freeP pace p n) (p.ord.take j) = acc at *
    have key : fnext (freeP pace p n) acc m = (m, max (freeP pace p n m) (topL n (entsP pace p) j), if freeP pace p n m < topL n (entsP pace p) j then ldrX n (entsP pace p) j else none) ∧
        ldrX n (entsP pace p) (j + 1) = some (((if freeP pace p n m < topL n (entsP pace p) j then ldrX n (entsP pace p) j else none) : Option Str).getD m) := by
      unfold fnext
      cases hl : acc.getLast? with
      | none =>
        have ha : acc = [] := List.getLast?_eq_none_iff.mp hl
        rw [ha] at hlen
        have hj0 : j = 0 := hlen.symm
        subst hj0
        rw [topL_zero] at lfree ⊢
        rw [if_neg (by omega), lfree hp]
        refine ⟨?_, rfl⟩
        show (m, freeP pace p n m, none) = _
        rw [Int.max_eq_left hp]
      | some r =>
        obtain ⟨a, t, l⟩ := r
        obtain ⟨ht, hx⟩ := i2 _ hl
        have ht2 : t = topL n (entsP pace p) j := ht
        have hx2 : ldrX n (entsP pace p) j = some (l.getD a) := hx
        show (if freeP pace p n m < t then (m, t, some (l.getD a)) else (m, freeP pace p n m, none)) = _ ∧ _
        rw [ht2]
        by_cases c : freeP pace p n m < topL n (entsP pace p) j
        · rw [if_pos c, if_pos c, lheld (by omega), hx2, Int.max_eq_right (by omega)]
          exact ⟨rfl, rfl⟩
        · rw [if_neg c, if_neg c, lfree (by omega), Int.max_eq_left (by omega)]
          exact ⟨rfl, rfl⟩
    refine ⟨by rw [key.1], fun r e => ?_, by omega⟩
    have er : r = fnext (freeP pace p n) acc m := by
      rw [hdl] at e
      exact (Option.some.inj e).symm
    rw [er, key.1]
    exact ⟨by show max _ _ = max _ _; omega, key.2⟩
theorem outS_step {pace : Str → Int} {p : Pl Str} {s : Sec} (nd : p.ord.Nodup) (h0 : ∀ m ∈ p.ord, 0 ≤ freeP pace p s.2 m) : outS s.1 s.2 (entsP pace p) = entsP pace (stepP pace p s) := by
  obtain ⟨b, n⟩ := s
  cases b with
  | true =>
    show outW n (entsP pace p) = (sortBy (freeP pace p n) p.ord).map (fun m => (m, freeP pace p n m, pace m))
    unfold outW entsP
    rw [sortBy_map (entP pace p) (freeP pace p n) (ownT n) p.ord (fun _ _ => rfl), List.map_map]
    rfl
  | false =>
    have hl : (entsP pace p).length = p.ord.length := by unfold entsP; rw [List.length_map]
    show outN n (entsP pace p) (entsP pace p).length = p.ord.map (fun m => (m, tickOf (foll (freeP pace p n) p.ord) m, pace m))
    rw [hl, outN_rows _ (Nat.le_refl _), (rowN_foll h0 p.ord.length (Nat.le_refl _)).1, List.take_length]
    have hn := foll_names (freeP pace p n) p.ord
    have nd2 : ((foll (freeP pace p n) p.ord).map (·.1)).Nodup := by rw [hn]; exact nd
    conv => rhs; rw [← hn]
    rw [List.map_map]
    refine List.map_congr_left fun r hr => ?_
    obtain ⟨i, hi⟩ := List.mem_iff_getElem?.mp hr
    have hk := look_get nd2 hi
    rw [hn]
    show (r.1, r.2.1, pace r.1) = (r.1, tickOf (foll (freeP pace p n) p.ord) r.1, pace r.1)
    unfold tickOf
    rw [hk]
    rfl
theorem ldS_lead {pace : Str → Int} {p : Pl Str} {s : Sec} (h0 : ∀ m ∈ p.ord, 0 ≤ freeP pace p s.2 m) (m : Str) : ldS s.1 s.2 (entsP pace p) m = leadP pace p s m := by
  obtain ⟨b, n⟩ := s
  have hl : (entsP pace p).length = p.ord.length := by unfold entsP; rw [List.length_map]
  cases b with
  | true => rfl
  | false =>
    show leadOf (rowN n (entsP pace p) (entsP pace p).length) m = leadOf (foll (freeP pace p n) p.ord) m
    rw [hl, (rowN_foll h0 p.ord.length (Nat.le_refl _)).1, List.take_length]
end Sl

set_option Elab.async false
set_option linter.all false
set_option maxRecDepth 100000
set_option maxHeartbeats 1000000
namespace Sl
open PySem PySem.Spec L2 OwnR LamX
def gOf (b : Str → List Int) (acc : List (RowT Str)) (n : Str) : List Int := b n ++ (match look acc n with
  | some x => [x.1]
  | none => [])
theorem gOf_nil (b : Str → List Int) : gOf b [] = b := by
  funext n
  unfold gOf
  rw [look_nil]
  exact List.append_nil _
theorem gOf_snoc (b : Str → List Int) (acc : List (RowT Str)) (r : RowT Str) (h : r.1 ∉ acc.map (·.1)) : (fun n => if n = r.1 then gOf b acc r.1 ++ [r.2.1] else gOf b acc n) = gOf b (acc ++ [r]) := by
  funext n
  show (if n = r.1 then gOf b acc r.1 ++ [r.2.1] else gOf b acc n) = _
  unfold gOf
  rw [look_snoc acc r n h]
  by_cases e : n = r.1
  · rw [if_pos e, if_pos e, look_none h, e]
    simp
  · rw [if_neg e, if_neg e]
theorem gOf_in {b : Str → List Int} {acc : List (RowT Str)} {n : Str} {x : Int × Option Str} (h : look acc n = some x) : gOf b acc n = b n ++ [x.1] := by
  unfold gOf
  rw [h]
def tkl (secs : List Sec) (cars : List Car) (i : Nat) (n : Str) : List Int := (List.range (i + 1)).map fun k => (plcC secs cars k).tk n
theorem tkl_succ (secs : List Sec) (cars : List Car) (i : Nat) (n : Str) : tkl secs cars (i + 1) n = tkl secs cars i n ++ [(plcC secs cars (i + 1)).tk n] := by
  unfold tkl
  rw [List.range_succ, List.map_append]
  rfl
theorem tkl_last (secs : List Sec) (cars : List Car) (i : Nat) (n : Str) : ∃ l, tkl secs cars i n = l ++ [(plcC secs cars i).tk n] := by
  unfold tkl
  exact ⟨(List.range i).map fun k => (plcC secs cars k).tk n, by rw [List.range_succ, List.map_append]; rfl⟩
/-- lists of numbers are no lists of names, none of references -/
theorem ints_str {l : List Int} {m : List Str} (h : l ≠ []) : (HO.lst (l.map V.int)) ≠ .lst (m.map V.str) := by
  intro z
  cases l with
  | nil => exact h rfl
  | cons a r =>
    cases m with
    | nil => cases z
    | cons b q => cases z
theorem ints_ref {l : List Int} {m : List Addr} (h : l ≠ []) : (HO.lst (l.map V.int)) ≠ .lst (m.map V.ref) := by
  intro z
  cases l with
  | nil => exact h rfl
  | cons a r =>
    cases m with
    | nil => cases z
    | cons b q => cases z
structure DrW (H0 H : Hp) (secs : List Sec) (cars : List Car) (i : Nat) (g : Str → List Int) (TK OD LD : Addr) (ds os ls : List Addr) : Prop where
  sm : Same H0 H
  tk : ∃ kt, H TK = some (.dK kt) ∧ kt.map (·.1) = cars.map (fun c => (Sum.inr c.name : Key)) ∧ ∀ (q : Nat) (c : Car) (d : Addr), cars[q]? = some c → ds[q]? = some d → valV kt (Sum.inr c.name : Key) = some (.ref d)
  dl : ds.length = cars.length
  dv : ∀ (q : Nat) (c : Car) (d : Addr), cars[q]? = some c → ds[q]? = some d → H d = some (.lst ((g c.name).map V.int))
  gne : ∀ n, g n ≠ []
  dn : ds.Nodup
  dnew : ∀ d ∈ ds, H0 d = none
  od : H OD = some (.lst (os.map V.ref))
  ol : os.length = i + 1
  ov : ∀ (k : Nat) (d : Addr), os[k]? = some d → H d = some (.lst ((plcC secs cars k).ord.map V.str))
  odn : H0 OD = none
  ld : H LD = some (.lst (ls.map V.ref))
  ll : ls.length = i
  lv : ∀ (k : Nat) (d : Addr), ls[k]? = some d → ∃ kv, H d = some (.dK kv) ∧ ∀ n, valV kv (Sum.inr n : Key) = (ldrC secs cars k n).map V.str
  ldn : H0 LD = none
  osl : ∀ d ∈ os, d ≠ LD
section
variable {H0 H H' : Hp} {secs : List Sec} {cars : List Car} {i : Nat} {g : Str → List Int} {TK OD LD : Addr} {ds os ls : List Addr}
theorem DrW.step (D : DrW H0 H secs cars i g TK OD LD ds os ls) (e : Same H H') : DrW H0 H' secs cars i g TK OD LD ds os ls where
  sm := D.sm.trans e
  tk := let ⟨kt, a, b⟩ := D.tk; ⟨kt, e _ _ a, b⟩
  dl := D.dl
  dv := fun q c d h1 h2 => e _ _ (D.dv q c d h1 h2)
  gne := D.gne
  dn := D.dn
  dnew := D.dnew
  od := e _ _ D.od
  ol := D.ol
  ov := fun k d h => e _ _ (D.ov k d h)
  odn := D.odn
  ld := e _ _ D.ld
  ll := D.ll
  lv := fun k d h => let ⟨kv, a, b⟩ := D.lv k d h; ⟨kv, e _ _ a, b⟩
  ldn := D.ldn
  osl := D.osl
theorem DrW.congr (D : DrW H0 H secs cars i g TK OD LD ds os ls) {g' : Str → List Int} (h : ∀ c ∈ cars, g c.name = g' c.name) (hn : ∀ n, g' n ≠ []) : DrW H0 H secs cars i g' TK OD LD ds os ls :=
  { D with dv := fun q c d h1 h2 => by rw [← h c (List.mem_of_getElem? h1)]; exact D.dv q c d h1 h2, gne := hn }
/-- a tick is put behind a car's list -/
theorem DrW.tick (D : DrW H0 H secs cars i g TK OD LD ds os ls) (nd : (names cars).Nodup) {q : Nat} {c : Car} {d : Addr} (hq : cars[q]? = some c) (hd : ds[q]? = some d) (x : Int) :
    DrW H0 (upd H d (.lst ((g c.name).map V.int ++ [.int x]))) secs cars i (fun n => if n = c.name then g c.name ++ [x] else g n) TK OD LD ds os ls := by
  have hc := D.dv q c d hq hd
  have kl : ∀ b o, H b = some o → (∀ xs, o ≠ .lst xs) → upd H d (.lst ((g c.name).map V.int ++ [.int x])) b = some o := fun b o e n => by rw [upd_ne (ne_of e hc (n _))]; exact e
  have ks : ∀ b (m : List Str), H b = some (.lst (m.map V.str)) → upd H d (.lst ((g c.name).map V.int ++ [.int x])) b = some (.lst (m.map V.str)) := fun b m e => by rw [upd_ne (ne_of e hc (ints_str (D.gne _)).symm)]; exact e
  have kr : ∀ b (m : List Addr), H b = some (.lst (m.map V.ref)) → upd H d (.lst ((g c.name).map V.int ++ [.int x])) b = some (.lst (m.map V.ref)) := fun b m e => by rw [upd_ne (ne_of e hc (ints_ref (D.gne _)).symm)]; exact e
  have nw := D.dnew d (List.mem_of_getElem? hd)
  refine { D with sm := fun b o e => ?_, tk := ?_, dv := ?_, gne := ?_, od := kr _ _ D.od, ov := fun k b h => ks _ _ (D.ov k b h), ld := kr _ _ D.ld, lv := ?_ }
  · rw [upd_ne (ne_of_none e nw)]
    exact D.sm b o e
  · obtain ⟨kt, a, b⟩ := D.tk
    exact ⟨kt, kl _ _ a fun _ z => (nomatch z), b⟩
  · intro q' c' d' h1 h2
    by_cases e : d' = d
    · subst e
      have : q' = q := nd_ix D.dn h2 hd
      subst this
      rw [hq] at h1
      cases h1
      rw [upd_same]
      show _ = some (HO.lst ((if c.name = c.name then g c.name ++ [x] else g c.name).map V.int))
      rw [if_pos rfl, List.map_append]
      rfl
    · rw [upd_ne e]
      have hne : ¬ c'.name = c.name := fun z => by
        have a1 : (names cars)[q']? = some c.name := by unfold names; rw [List.getElem?_map, h1]; exact congrArg some z
        have a2 : (names cars)[q]? = some c.name := by unfold names; rw [List.getElem?_map, hq]; rfl
        have := nd_ix nd a1 a2
        subst this
        rw [hd] at h2
        exact e (Option.some.inj h2).symm
      show _ = some (HO.lst ((if c'.name = c.name then g c.name ++ [x] else g c'.name).map V.int))
      rw [if_neg hne]
      exact D.dv q' c' d' h1 h2
  · intro n
    show (if n = c.name then g c.name ++ [x] else g n) ≠ []
    split
    · simp
    · exact D.gne n
  · intro k b h
    obtain ⟨kv, a, e⟩ := D.lv k b h
    exact ⟨kv, kl _ _ a fun _ z => (nomatch z), e⟩
/-- the section's order and leaders are put behind the lists -/
theorem DrW.put (D : DrW H0 H secs cars i g TK OD LD ds os ls) {o' l' : Addr} {kv : List (Key × V)} (ho : H o' = some (.lst ((plcC secs cars (i + 1)).ord.map V.str))) (no : o' ≠ LD) (hl : H l' = some (.dK kv)) (hkv : ∀ n, valV kv (Sum.inr n : Key) = (ldrC secs cars i n).map V.str) :
    DrW H0 (upd (upd H OD (.lst (os.map V.ref ++ [.ref o']))) LD (.lst (ls.map V.ref ++ [.ref l']))) secs cars (i + 1) g TK OD LD ds (os ++ [o']) (ls ++ [l']) := by
  have one : os ≠ [] := fun z => by have := D.ol; rw [z] at this; simp at this
  have refs_str : ∀ (m : List Str), HO.lst (m.map V.str) ≠ .lst (os.map V.ref) := fun m z => by
    cases os with
    | nil => exact one rfl
    | cons a r =>
      cases m with
      | nil => cases z
      | cons b q => cases z
  have nOL : OD ≠ LD := fun z => by
    have h1 := D.od
    have h2 := D.ld
    rw [z, h2] at h1
    have h3 : ls.map V.ref = os.map V.ref := by
      have := Option.some.inj h1
      injection this
    have := congrArg List.length h3
    rw [List.length_map, List.length_map, D.ol, D.ll] at this
    omega
  have kl : ∀ b o, H b = some o → (∀ xs, o ≠ .lst xs) → upd (upd H OD (.lst (os.map V.ref ++ [.ref o']))) LD (.lst (ls.map V.ref ++ [.ref l'])) b = some o := fun b o e n => by
    rw [upd_ne (ne_of e D.ld (n _)), upd_ne (ne_of e D.od (n _))]
    exact e
  have kd : ∀ (q : Nat) (c : Car) (d : Addr), cars[q]? = some c → ds[q]? = some d → upd (upd H OD (.lst (os.map V.ref ++ [.ref o']))) LD (.lst (ls.map V.ref ++ [.ref l'])) d = some (.lst ((g c.name).map V.int)) := fun q c d h1 h2 => by
    have e := D.dv q c d h1 h2
    rw [upd_ne (ne_of e D.ld (ints_ref (D.gne _))), upd_ne (ne_of e D.od (ints_ref (D.gne _)))]
    exact e
  refine { D with sm := fun b o e => ?_, tk := ?_, dv := kd, od := ?_, ol := by rw [List.length_append, D.ol]; rfl, ov := ?_, ld := ?_, ll := by rw [List.length_append, D.ll]; rfl, lv := ?_, osl := ?_ }
  · rw [upd_ne (ne_of_none e D.ldn), upd_ne (ne_of_none e D.odn)]
    exact D.sm b o e
  · obtain ⟨kt, a, b⟩ := D.tk
    exact ⟨kt, kl _ _ a fun _ z => (nomatch z), b⟩
  · rw [upd_ne nOL, upd_same, List.map_append]
    rfl
  · intro k d h
    rcases snoc_get h with h | ⟨hk, rfl⟩
    · have e := D.ov k d h
      rw [upd_ne (D.osl d (List.mem_of_getElem? h)), upd_ne (ne_of e D.od (refs_str _))]
      exact e
    · rw [D.ol] at hk
      subst hk
      rw [upd_ne no, upd_ne (ne_of ho D.od (refs_str _))]
      exact ho
  · rw [upd_same, List.map_append]
    rfl
  · intro k d h
    rcases snoc_get h with h | ⟨hk, rfl⟩
    · obtain ⟨kv', a, e⟩ := D.lv k d h
      exact ⟨kv', kl _ _ a fun _ z => (nomatch z), e⟩
    · rw [D.ll] at hk
      subst hk
      exact ⟨kv, kl _ _ hl fun _ z => (nomatch z), hkv⟩
  · intro d hd
    rcases List.mem_append.mp hd with hd | hd
    · exact D.osl d hd
    · rw [List.mem_singleton.mp hd]
      exact no
end
def OrdsAt (H : Hp) (a : Addr) (secs : List Sec) (cars : List Car) : Prop := ∃ os : List Addr, H a = some (.lst (os.map V.ref)) ∧ os.length = secs.length + 1 ∧ ∀ (k : Nat) (d : Addr), os[k]? = some d → H d = some (.lst ((plcC secs cars k).ord.map V.str))
def TksAt (H : Hp) (a : Addr) (secs : List Sec) (cars : List Car) : Prop := ∃ kt, H a = some (.dK kt) ∧ kt.map (·.1) = cars.map (fun c => (Sum.inr c.name : Key)) ∧ ∀ c ∈ cars, ∃ d, valV kt (Sum.inr c.name : Key) = some (.ref d) ∧ H d = some (.lst ((tkl secs cars secs.length c.name).map V.int))
def LdsAt (H : Hp) (a : Addr) (secs : List Sec) (cars : List Car) : Prop := ∃ ls : List Addr, H a = some (.lst (ls.map V.ref)) ∧ ls.length = secs.length ∧ ∀ (k : Nat) (d : Addr), ls[k]? = some d → ∃ kv, H d = some (.dK kv) ∧ ∀ n, valV kv (Sum.inr n : Key) = (ldrC secs cars k n).map V.str
/-- the rows (key, place), sorted -/
theorem sorted_idx {α : Type} {es : List α} {key : α → Int} {us : List Addr} {H : Hp} (hl : us.length = es.length) (uT : ∀ (i : Nat) (t : Addr) (x : α), us[i]? = some t → es[i]? = some x → H t = some (.tup [.int (key x), .int ((i : Nat) : Int)])) :
    (∀ x ∈ us.map V.ref, ∃ t, x = V.ref t ∧ H t = some (.tup [.int (pairK H x).1, .int (pairK H x).2])) ∧
    ∀ ys, SrtO.Srtd (ltP (pairK H)) ys → SrtO.Stb (ltP (pairK H)) ys (us.map V.ref) → ∃ L : List ((α × Nat) × Addr), ys = L.map (fun q => V.ref q.2) ∧ (∀ q ∈ L, H q.2 = some (.tup [.int (key q.1.1), .int ((q.1.2 : Nat) : Int)]) ∧ es[q.1.2]? = some q.1.1) ∧ L.map (fun q => q.1.1) = sortBy key es := by
  have hzl : es.zipIdx.length = us.length := by rw [List.length_zipIdx, hl]
  have zI : ∀ (i : Nat) (q : α × Nat), es.zipIdx[i]? = some q → q.2 = i ∧ es[i]? = some q.1 := fun i q e => by
    rw [List.getElem?_zipIdx] at e
    obtain ⟨x, e1, e2⟩ := Option.map_eq_some_iff.mp e
    rw [← e2]
    exact ⟨by simp, e1⟩
  have hT : ∀ (i : Nat) (t : Addr) (q : α × Nat), us[i]? = some t → es.zipIdx[i]? = some q → H t = some (.tup [.int (key q.1), .int ((q.2 : Nat) : Int)]) := fun i t q e1 e2 => by
    rw [(zI i q e2).1]
    exact uT i t q.1 e1 (zI i q e2).2
  refine ⟨fun x hx => ?_, fun ys hs hst => ?_⟩
  · obtain ⟨t, ht, rfl⟩ := List.mem_map.mp hx
    obtain ⟨i, hi⟩ := List.mem_iff_getElem?.mp ht
    obtain ⟨q, hq⟩ : ∃ q, es.zipIdx[i]? = some q := ⟨_, List.getElem?_eq_getElem (by rw [hzl]; exact (List.getElem?_eq_some_iff.mp hi).1)⟩
    have := hT i t q hi hq
    exact ⟨t, rfl, by rw [pairK_of this]; exact this⟩
  have hys := sorted_pairs_isort hs hst fun i x hx => by
    rw [List.getElem?_map] at hx
    obtain ⟨t, ht, rfl⟩ := Option.map_eq_some_iff.mp hx
    obtain ⟨q, hq⟩ : ∃ q, es.zipIdx[i]? = some q := ⟨_, List.getElem?_eq_getElem (by rw [hzl]; exact (List.getElem?_eq_some_iff.mp ht).1)⟩
    rw [pairK_of (hT i t q ht hq), (zI i q hq).1]
  have hzm : ∀ q ∈ es.zipIdx.zip us, H q.2 = some (.tup [.int (key q.1.1), .int ((q.1.2 : Nat) : Int)]) ∧ es[q.1.2]? = some q.1.1 := fun q hq => by
    obtain ⟨i, hi⟩ := List.mem_iff_getElem?.mp hq
    obtain ⟨e1, e2⟩ := List.getElem?_zip_eq_some.mp hi
    refine ⟨hT i _ _ e2 e1, ?_⟩
    rw [(zI i _ e1).1]
    exact (zI i _ e1).2
  have hus : us.map V.ref = (es.zipIdx.zip us).map fun q => V.ref q.2 := by
    conv => lhs; rw [← List.map_snd_zip (l₁ := es.zipIdx) (l₂ := us) (by omega)]
    rw [List.map_map]
    rfl
  refine ⟨sortBy (fun q : (α × Nat) × Addr => key q.1.1) (es.zipIdx.zip us), ?_, fun q hq => hzm q ((sortBy_perm _ _).mem_iff.mp hq), ?_⟩
  · rw [hys, hus, List.map_map]
    have e1 : ((es.zipIdx.zip us).map ((fun x => ((pairK H x).1, x)) ∘ fun q => V.ref q.2)) = ((es.zipIdx.zip us).map fun q => (key q.1.1, q)).map fun r => (r.1, V.ref r.2.2) := by
      rw [List.map_map]
      refine List.map_congr_left fun q hq => ?_
      show ((pairK H (V.ref q.2)).1, V.ref q.2) = (key q.1.1, V.ref q.2)
      rw [pairK_of (hzm q hq).1]
    rw [e1, isort_map (fun q : (α × Nat) × Addr => V.ref q.2), List.map_map]
    unfold sortBy
    rw [List.map_map]
    rfl
  · have e1 : (es.zipIdx.zip us).map (fun q => q.1.1) = es := by
      have h := List.map_fst_zip (l₁ := es.zipIdx) (l₂ := us) (by omega)
      have h2 : es.zipIdx.map Prod.fst = es := by simp
      have h4 : (es.zipIdx.zip us).map (fun q => q.1.1) = ((es.zipIdx.zip us).map Prod.fst).map Prod.fst := by rw [List.map_map]; rfl
      rw [h4, h, h2]
    have e2 := sortBy_map (fun q : (α × Nat) × Addr => q.1.1) (fun q => key q.1.1) key (es.zipIdx.zip us) (fun _ _ => rfl)
    conv => rhs; rw [← e1]
    exact e2.symm
end Sl

set_option Elab.async false
set_option linter.all false
set_option maxRecDepth 100000
set_option maxHeartbeats 1000000
namespace Sl
open PySem PySem.Spec L2 OwnR LamX
/-- cars that may start at any tick -/
structure CarW (c : Car) : Prop where
  s0 : 0 ≤ c.start
  p0 : 1 ≤ c.pace
  p1 : c.pace ≤ 60
structure CarsW (cars : List Car) : Prop where
  all : ∀ c ∈ cars, CarW c
  nd : (cars.map (·.name)).Nodup
  few : cars.length ≤ 10
theorem CarsOk.w {cars : List Car} (h : CarsOk cars) : CarsW cars := ⟨fun c hc => let q := h.all c hc; ⟨q.s0, q.p0, q.p1⟩, h.nd, h.few⟩
theorem put_keys {kvs : List (Key × V)} {k : Key} {v : V} (h : k ∉ kvs.map (·.1)) : (putK kvs k v).map (·.1) = kvs.map (·.1) ++ [k] := by
  have e : valV kvs k = none := by
    cases q : valV kvs k with
    | none => rfl
    | some v => exact absurd (valV_in q) h
  rw [putK_new _ e, List.map_append]
  rfl
theorem foll_ge (fr : Str → Int) (ord : List Str) : ∀ r ∈ foll fr ord, fr r.1 ≤ r.2.1 := by
  have h : ∀ (l : List Str) (acc : List (RowT Str)), (∀ r ∈ acc, fr r.1 ≤ r.2.1) → ∀ r ∈ l.foldl (fun acc n => acc ++ [fnext fr acc n]) acc, fr r.1 ≤ r.2.1 := by
    intro l
    induction l with
    | nil => intro acc h; exact h
    | cons n q ih =>
      intro acc h
      rw [List.foldl_cons]
      refine ih _ fun r hr => ?_
      rcases List.mem_append.mp hr with hr | hr
      · exact h r hr
      · rw [List.mem_singleton.mp hr]
        unfold fnext
        split
        · exact Int.le_refl _
        · split
          · rename_i z
            exact Int.le_of_lt z
          · exact Int.le_refl _
  exact h ord [] (fun r hr => nomatch hr)
theorem tick_ge (pace : Str → Int) (p : Pl Str) (s : Sec) {n : Str} (hn : n ∈ p.ord) : freeP pace p s.2 n ≤ (stepP pace p s).tk n := by
  unfold stepP
  cases hw : s.1 with
  | true => exact Int.le_refl _
  | false =>
    show freeP pace p s.2 n ≤ tickOf (foll (freeP pace p s.2) p.ord) n
    obtain ⟨x, hx⟩ := look_some (acc := foll (freeP pace p s.2) p.ord) (n := n) (by rw [foll_names]; exact hn)
    have h2 := hx
    unfold look at h2
    obtain ⟨r, hr, e⟩ := Option.map_eq_some_iff.mp h2
    have hm := List.mem_of_find?_eq_some hr
    have hn2 : r.1 = n := by simpa using List.find?_some hr
    have := foll_ge (freeP pace p s.2) p.ord r hm
    unfold tickOf
    rw [hx, ← e]
    rw [hn2] at this
    exact this
theorem reach_ge {secs : List Sec} {cars : List Car} (CO : CarsW cars) {c : Car} (hc : c ∈ cars) : ∀ k, k ≤ secs.length → startOf cars c.name + c.pace * ((((secs.take k).map (·.2)).sum : Nat) : Int) ≤ (plcC secs cars k).tk c.name
  | 0, _ => by
    show startOf cars c.name + c.pace * (((0 : Nat)) : Int) ≤ startOf cars c.name
    simp
  | k + 1, h => by
    have ih := reach_ge (secs := secs) CO hc k (by omega)
    have hkl : k < secs.length := by omega
    obtain ⟨s, hs⟩ : ∃ s, secs[k]? = some s := ⟨_, List.getElem?_eq_getElem hkl⟩
    have eN : plcC secs cars (k + 1) = stepP (paceOf cars) (plcC secs cars k) s := plc_succ (paceOf cars) (pl0 cars) secs hs
    have hm : c.name ∈ (plcC secs cars k).ord := (plcC_perm secs cars k).mem_iff.mpr (List.mem_map.mpr ⟨c, hc, rfl⟩)
    have hg := tick_ge (paceOf cars) (plcC secs cars k) s hm
    rw [eN]
    refine Int.le_trans ?_ hg
    unfold freeP
    rw [tk1 hs, List.map_append, List.sum_append, paceOf_car CO.nd hc]
    have e1 : ((((List.map (·.2) (secs.take k)).sum + (List.map (·.2) [s]).sum : Nat)) : Int) = (((List.map (·.2) (secs.take k)).sum : Nat) : Int) + ((s.2 : Nat) : Int) := by simp
    rw [e1, Int.mul_add]
    omega
theorem free_nonneg {secs : List Sec} {cars : List Car} (CO : CarsW cars) {k : Nat} (hk : k ≤ secs.length) {n : Nat} {m : Str} (hm : m ∈ (plcC secs cars k).ord) : 0 ≤ freeP (paceOf cars) (plcC secs cars k) n m := by
  obtain ⟨c, hc, rfl⟩ := List.mem_map.mp ((plcC_perm secs cars k).mem_iff.mp hm)
  have h1 := reach_ge (secs := secs) CO hc k hk
  rw [startOf_car CO.nd hc] at h1
  have q := CO.all c hc
  have h2 := q.p0
  have h3 := Int.mul_nonneg (show (0 : Int) ≤ c.pace by omega) (Int.natCast_nonneg ((secs.take k).map (·.2)).sum)
  have h4 := Int.mul_nonneg (show (0 : Int) ≤ c.pace by omega) (Int.natCast_nonneg n)
  have h5 := q.s0
  unfold freeP
  rw [paceOf_car CO.nd hc]
  omega
theorem tk_nonneg {secs : List Sec} {cars : List Car} (CO : CarsW cars) {k : Nat} (hk : k ≤ secs.length) {m : Str} (hm : m ∈ (plcC secs cars k).ord) : 0 ≤ (plcC secs cars k).tk m := by
  have := free_nonneg CO hk (n := 0) hm
  unfold freeP at this
  simpa using this
theorem ents_zero {cars : List Car} (nd : (names cars).Nodup) : entsP (paceOf cars) (pl0 cars) = (sortBy (·.start) cars).map fun c => (c.name, c.start, c.pace) := by
  unfold entsP pl0
  show (sortBy (startOf cars) (names cars)).map _ = _
  unfold names
  rw [sortBy_map (·.name) (·.start) (startOf cars) cars (fun c hc => startOf_car nd hc), List.map_map]
  refine List.map_congr_left fun c hc => ?_
  have hm : c ∈ cars := (sortBy_perm _ _).mem_iff.mp hc
  show (c.name, startOf cars c.name, paceOf cars c.name) = _
  rw [startOf_car nd hm, paceOf_car nd hm]
theorem ents_names (pace : Str → Int) (p : Pl Str) : (entsP pace p).map (·.1) = p.ord := by
  unfold entsP
  rw [List.map_map]
  exact List.map_id _
/-- the ticks of a place, behind those before it -/
def rowsE (es : List Ent) : List (RowT Str) := es.map fun e => (e.1, e.2.1, none)
theorem gOf_full {secs : List Sec} {cars : List Car} {i : Nat} {c : Car} (CO : CarsW cars) (hc : c ∈ cars) :
    gOf (tkl secs cars i) (rowsE (entsP (paceOf cars) (plcC secs cars (i + 1)))) c.name = tkl secs cars (i + 1) c.name := by
  have hm : c.name ∈ (plcC secs cars (i + 1)).ord := (plcC_perm secs cars (i + 1)).mem_iff.mpr (List.mem_map.mpr ⟨c, hc, rfl⟩)
  obtain ⟨q, hq⟩ := List.mem_iff_getElem?.mp hm
  have nd2 : ((rowsE (entsP (paceOf cars) (plcC secs cars (i + 1)))).map (·.1)).Nodup := by
    unfold rowsE
    rw [List.map_map]
    have : ((fun x : RowT Str => x.1) ∘ fun e : Ent => (e.1, e.2.1, none)) = fun e : Ent => e.1 := rfl
    rw [this, ents_names]
    exact (plcC_perm secs cars (i + 1)).nodup_iff.mpr CO.nd
  have hr : (rowsE (entsP (paceOf cars) (plcC secs cars (i + 1))))[q]? = some (c.name, (plcC secs cars (i + 1)).tk c.name, none) := by
    unfold rowsE entsP
    rw [List.getElem?_map, List.getElem?_map, hq]
    rfl
  rw [gOf_in (look_get nd2 hr), tkl_succ]
end Sl

set_option Elab.async false
set_option linter.all false
set_option maxRecDepth 100000
set_option maxHeartbeats 1000000
namespace Sl
open PySem PySem.Spec L2 OwnR LamX
theorem DrW.nOL {H0 H : Hp} {secs : List Sec} {cars : List Car} {i : Nat} {g : Str → List Int} {TK OD LD : Addr} {ds os ls : List Addr} (D : DrW H0 H secs cars i g TK OD LD ds os ls) : OD ≠ LD := fun z => by
  have h1 := D.od
  have h2 := D.ld
  rw [z, h2] at h1
  have h3 : ls.map V.ref = os.map V.ref := by
    have := Option.some.inj h1
    injection this
  have := congrArg List.length h3
  rw [List.length_map, List.length_map, D.ol, D.ll] at this
  omega
section
variable {P : Program} {w : World} {K : PySem.W.Frag} {mg : Str → Option Value} {base : Heap}
def spDrivenW : Sp := fun vs H Q _ => ∃ (s a : Addr) (secs : List Sec) (cars : List Car), vs = [.ref s, .ref a] ∧ RunsAt H s secs ∧ TupsAt H a (cars.map Car.vs) ∧ SecsOk secs ∧ CarsW cars ∧
  ∀ H' t tk od ld, Same H H' → H' t = some (.tup [.ref tk, .ref od, .ref ld]) → TksAt H' tk secs cars → OrdsAt H' od secs cars → LdsAt H' ld secs cars → H tk = none → H od = none → H ld = none → Q (.ref t) H'
def nDrivenW : List Str := ["_law_parts_here", "_law_cars_here", "_law_starts", "_law_start", "_law_entries", "_law_ticks", "_law_orders", "_law_leaders", "_law_name", "_law_pace", "_law_kind", "_law_length", "_law_led", "_law_tick", "_law_k", "_law_car"]
theorem scDrivenW : FnScope nDrivenW ["_law_parts_here", "_law_cars_here"] (defScope sDriven) := ⟨rfl, rfl, rfl, by decide +kernel, rfl, by decide +kernel, by decide +kernel⟩
theorem ok_drivenW {f fS : Addr} {fd dS : FuncData} (F : Fun K "_law_driven" "_law_driven" sDriven f fd) (M : Mg mg) (BS : Fb K mg "_law_section" sSection ["_law_kind", "_law_length", "_law_entries"] fS dS)
    (GS : FnOk P w K mg base CX0 1 fS dS ["_law_kind", "_law_length", "_law_entries"] spLSec) : FnOk P w K mg base CX0 2 f fd ["_law_parts_here", "_law_cars_here"] spDrivenW := by
  refine F.ok scDrivenW (fun vs H Q E h => ?_) (fun cdv A outer s H vs Q E hr h => ?_)
  · obtain ⟨s, a, secs, cars, rfl, _⟩ := h
    rfl
  · obtain ⟨sl, a, secs, cars, rfl, hR, hC, SO, CO, k⟩ := h
    have nd := scDrivenW.nd
    have hu := hu_of hr
    refine ⟨_, pss_cons (ps_set (i := 2) nd rfl (.inl rfl) (pe_callB cr_sortedPO (by rfl) M.sorted boot_sortedB (pa_cons (pe_lc (own := [("_law_k", 14)]) (g := gName 14) (tt := tYes) (te := tTup (tCons (tOp (rIxT K) (tOp (rIxL K) (tVar 1) (tVar 14)) (tC (.int 1))) (tCons (tVar 14) tNil))) (by rfl) nd (pi_range1 (by rfl) M.range (pa_cons (pe_callB call_len_seq (by rfl) M.len boot_len (pa_cons (pv 1) pa_nil)) pa_nil)) (blkOk_by (N := nDrivenW) (sc := defScope sDriven) (by decide +kernel))
          (fun _ _ _ _ _ => pg_name (i := 14) nd rfl (Or.inl rfl)) (fun _ _ _ _ _ => pts_nil) (fun _ _ _ _ _ => pe_tup (pa_cons (pe_ix (r := rIxT K) ix_tup (pe_ix (r := rIxL K) ix_list (pv 1) (pv 14) (fun _ _ => rfl)) pe_int (fun _ _ => rfl)) (pa_cons (pv 14) pa_nil)))) pa_nil)))
      (pss_cons (ps_setLc (i := 4) (own := [("_law_start", 3), ("_law_k", 14)]) (g := gTup K 2 (gCons (gName 3) (gCons (gName 14) gNil))) (tt := tYes) (te := tOp (rIxL K) (tVar 1) (tVar 14)) (by rfl) nd rfl rfl (sw_true rfl rfl rfl (by decide +kernel)) (pi_list (pv 2)) (blkOk_by (N := nDrivenW) (sc := defScope sDriven) (by decide +kernel))
          (fun _ _ _ _ _ => pg_tup rfl (pgs_cons (pg_name (i := 3) nd rfl (Or.inl rfl)) (pgs_cons (pg_name (i := 14) nd rfl (Or.inl rfl)) pgs_nil))) (fun _ _ _ _ _ => pts_nil) (fun _ _ _ _ _ => pe_ix (r := rIxL K) ix_list (pv 1) (pv 14) (fun _ _ => rfl)))
      (pss_cons (ps_par3 (i := 5) (j := 6) (l := 7) rfl nd rfl rfl rfl (by decide) (by decide) (by decide) rfl rfl rfl (pa_cons pe_dnewK (pa_cons (pe_lst (pa_cons (pe_lc (own := [("_law_car", 15)]) (g := gName 15) (tt := tYes) (te := tOp (rIxT K) (tVar 15) (tC (.int 0))) (by rfl) nd (pi_list (pv 4)) (blkOk_by (N := nDrivenW) (sc := defScope sDriven) (by decide +kernel))
          (fun _ _ _ _ _ => pg_name (i := 15) nd rfl (Or.inl rfl)) (fun _ _ _ _ _ => pts_nil) (fun _ _ _ _ _ => pe_ix (r := rIxT K) ix_tup (pv 15) pe_int (fun _ _ => rfl))) pa_nil)) (pa_cons (pe_lst pa_nil) pa_nil))) rfl)
      (pss_cons (ps_for PassesOwn.never rfl (pi_list (pv 1)) (pg_tup rfl (pgs_cons (pg_name (i := 8) nd rfl (.inl rfl)) (pgs_cons (pg_name (i := 3) nd rfl (.inl rfl)) (pgs_cons (pg_name (i := 9) nd rfl (.inl rfl)) pgs_nil))))
        (pss_one (ps_dput hu (pv 5) (pv 8) (pe_lst (pa_cons (pv 3) pa_nil)) rfl)))
      (pss_cons (ps_for PassesOwn.never rfl (pi_list (pv 0)) (pg_tup rfl (pgs_cons (pg_name (i := 10) nd rfl (.inl rfl)) (pgs_cons (pg_name (i := 11) nd rfl (.inl rfl)) pgs_nil)))
        (pss_cons (ps_asg (pe_call GS hr (by rfl) BS.at_ BS.fn.kp BS.bd .nil pass0 (pa_cons (pv 10) (pa_cons (pv 11) (pa_cons (pv 4) pa_nil)))) (pg_tup rfl (pgs_cons (pg_name (i := 4) nd rfl (.inl rfl)) (pgs_cons (pg_name (i := 12) nd rfl (.inl rfl)) pgs_nil))))
        (pss_cons (ps_for PassesOwn.never rfl (pi_list (pv 4)) (pg_tup rfl (pgs_cons (pg_name (i := 8) nd rfl (.inl rfl)) (pgs_cons (pg_name (i := 13) nd rfl (.inl rfl)) (pgs_cons (pg_name (i := 9) nd rfl (.inl rfl)) pgs_nil))))
          (pss_one (ps_expr (pe_bm PySem.F.plainAttrs_list PySem.F.slot_list_append PySem.F.type_list_append mt_append (pe_dget hu (pv 5) (pv 8) (fun _ _ => rfl)) (pa_cons (pv 13) pa_nil)))))
        (pss_cons (ps_expr (pe_bm PySem.F.plainAttrs_list PySem.F.slot_list_append PySem.F.type_list_append mt_append (pv 6) (pa_cons (pe_lc (own := [("_law_car", 15)]) (g := gName 15) (tt := tYes) (te := tOp (rIxT K) (tVar 15) (tC (.int 0))) (by rfl) nd (pi_list (pv 4)) (blkOk_by (N := nDrivenW) (sc := defScope sDriven) (by decide +kernel))
          (fun _ _ _ _ _ => pg_name (i := 15) nd rfl (Or.inl rfl)) (fun _ _ _ _ _ => pts_nil) (fun _ _ _ _ _ => pe_ix (r := rIxT K) ix_tup (pv 15) pe_int (fun _ _ => rfl))) pa_nil)))
        (pss_one (ps_expr (pe_bm PySem.F.plainAttrs_list PySem.F.slot_list_append PySem.F.type_list_append mt_append (pv 7) (pa_cons (pv 12) pa_nil))))))))
      (pss_one (ps_ret (pe_tup (pa_cons (pv 5) (pa_cons (pv 6) (pa_cons (pv 7) pa_nil)))))))))), ?_⟩
    have ndn : (names cars).Nodup := CO.nd
    obtain ⟨ts, a1, a2, a3⟩ := id hC
    rw [List.length_map] at a2
    have hal : (ts.map V.ref).length = cars.length := by rw [List.length_map, a2]
    have few := CO.few
    have carAt : ∀ (i : Nat) (c : Car), cars[i]? = some c → ∃ t, ts[i]? = some t ∧ H t = some (.tup c.vs) := fun i c e => by
      obtain ⟨t, ht⟩ : ∃ t, ts[i]? = some t := ⟨_, List.getElem?_eq_getElem (by rw [a2]; exact (List.getElem?_eq_some_iff.mp e).1)⟩
      exact ⟨t, ht, a3 i t c.vs ht (by rw [List.getElem?_map, e]; rfl)⟩
    refine ⟨_, rfl, a, _, rfl, .inl (SqL.of a1), (((ts.map V.ref).length : Nat) : Int), rfl, by omega, by omega, fun W hW => ?_⟩
    rw [Int.toNat_natCast, hal]
    refine lc_it walk_range (fun i H1 => Same H H1 ∧ TupsAt H1 W ((cars.take i).zipIdx.map fun q => [V.int q.1.start, V.int ((q.2 : Nat) : Int)]))
      ⟨sameNew hW _, tups_nil upd_same⟩ (fun _ _ _ _ => True.intro) ?_ ?_
    · rintro i z H1 H2 hi ⟨k1, T1⟩ ⟨e, ez⟩
      have ez2 : z = V.int ((i : Nat) : Int) := by
        rw [ez]
        show V.int (0 + ((i : Nat) : Int)) = _
        rw [Int.zero_add]
      clear ez
      subst e ez2
      obtain ⟨c, hc⟩ : ∃ x, cars[i]? = some x := ⟨_, List.getElem?_eq_getElem hi⟩
      obtain ⟨t, ht, htv⟩ := carAt i c hc
      obtain ⟨us, u1, u2, u3⟩ := id T1
      refine ⟨rfl, yes_of ?_⟩
      refine ⟨_, rfl, _, rfl, a, _, _, _, rfl, rfl, SqL.of (k1 _ _ a1), atI_nat (map_at V.ref ht), t, _, _, _, rfl, rfl, SqT.of (k1 _ _ htv), rfl, ?_⟩
      refine ⟨_, rfl, by show 2 ≤ sizeLine; decide, fun x hx => ?_⟩
      refine ⟨us.map V.ref, by rw [upd_ne (ne_of_none u1 hx)]; exact u1, ?_, fun p o e => ?_, ?_⟩
      · rw [List.length_map, u2, List.length_map, List.length_zipIdx, List.length_take]
        exact small1000 (by omega)
      · have e4 := k1 _ _ e
        rw [upd_ne (ne_of_none e hW), upd_ne (ne_of_none e4 hx)]
        exact e4
      · have := tups_push u1 u2 u3 hx [V.int c.start, V.int ((i : Nat) : Int)]
        have e2 : (cars.take (i + 1)).zipIdx.map (fun q => [V.int q.1.start, V.int ((q.2 : Nat) : Int)]) = (cars.take i).zipIdx.map (fun q => [V.int q.1.start, V.int ((q.2 : Nat) : Int)]) ++ [[V.int c.start, V.int ((i : Nat) : Int)]] := by
          rw [List.take_succ, hc, List.zipIdx_append, List.map_append, List.length_take, Nat.min_eq_left (Nat.le_of_lt hi)]
          simp
        rw [e2]
        exact this
    · rintro H1 ⟨k1, T1⟩
      rw [List.take_length] at T1
      obtain ⟨us, u1, u2, u3⟩ := T1
      rw [List.length_map, List.length_zipIdx] at u2
      obtain ⟨q1, q2⟩ := sorted_idx (es := cars) (key := (·.start)) (us := us) (H := H1) u2 fun i t c e1 e2 => u3 i t _ e1 (by rw [List.getElem?_map, List.getElem?_zipIdx, e2]; simp)
      refine ⟨W, us.map V.ref, pairK H1, rfl, SqL.of u1, q1, fun ys p hs hst hp => ?_⟩
      obtain ⟨L, rfl, hL, hLs⟩ := q2 ys hs hst
      have hLl : L.length = cars.length := by
        have := congrArg List.length hLs
        rw [List.length_map, (sortBy_perm _ _).length_eq] at this
        exact this
      have S2 : Same H (upd H1 p (.lst (L.map fun q => V.ref q.2))) := k1.trans (sameNew hp _)
      have hp2 : upd H1 p (.lst (L.map fun q => V.ref q.2)) p = some (.lst (L.map fun q => V.ref q.2)) := upd_same
      have hL2 : ∀ q ∈ L, upd H1 p (.lst (L.map fun q => V.ref q.2)) q.2 = some (.tup [.int q.1.1.start, .int ((q.1.2 : Nat) : Int)]) := fun q hq => sameNew hp _ _ _ (hL q hq).1
      have hL3 : ∀ q ∈ L, cars[q.1.2]? = some q.1.1 := fun q hq => (hL q hq).2
      show tSeq _ _ _ _ (upd H1 p (.lst (L.map fun q => V.ref q.2)))
      generalize upd H1 p (.lst (L.map fun q => V.ref q.2)) = H2 at S2 hp2 hL2 ⊢
      clear hL q1 q2 u1 u2 u3 k1 hs hst hp
      refine ⟨_, rfl, p, rfl, ⟨_, SqL.of hp2⟩, fun E hE => ?_⟩
      refine lc_it walk_list (fun i H3 => Same H2 H3 ∧ H3 E = some (.lst (((L.take i).map fun q => ts.getD q.1.2 0).map V.ref)))
        ⟨sameNew hE _, upd_same⟩ (fun i H3 _ ⟨k3, _⟩ => SqL.of (k3 _ _ hp2)) ?_ ?_
      · rintro i z H3 H4 hi ⟨k3, hE3⟩ ⟨e, hz⟩
        subst e
        obtain ⟨q, hq, rfl⟩ : ∃ q, L[i]? = some q ∧ z = V.ref q.2 := by
          rw [List.getElem?_map] at hz
          obtain ⟨t, z1, z2⟩ := Option.map_eq_some_iff.mp hz
          exact ⟨t, z1, z2.symm⟩
        have hmq := List.mem_of_getElem? hq
        obtain ⟨t, ht, htv⟩ := carAt _ _ (hL3 q hmq)
        refine ⟨q.2, _, rfl, SqT.of (k3 _ _ (hL2 q hmq)), rfl, _, _, rfl, _, _, rfl, rfl, ?_⟩
        refine ⟨rfl, yes_of ?_⟩
        refine ⟨_, rfl, _, rfl, a, _, _, .ref t, rfl, rfl, SqL.of (k3 _ _ (S2 _ _ a1)), atI_nat (map_at V.ref ht), ?_⟩
        refine ⟨_, hE3, ?_, fun b o e => ?_, ?_⟩
        · rw [List.length_map, List.length_map, List.length_take]
          exact small1000 (by omega)
        · rw [upd_ne (ne_of_none e hE)]
          exact k3 _ _ e
        · rw [upd_same, List.take_succ, hq, List.map_append, List.map_append]
          show _ = some (HO.lst (_ ++ [V.ref (ts.getD q.1.2 0)]))
          rw [List.getD_eq_getElem?_getD, ht]
          rfl
      · rintro H3 ⟨k3, hE3⟩
        rw [List.length_map, List.take_length] at hE3
        have S3 := S2.trans k3
        have nEH : H E = none := none_back S2 hE
        have TE : TupsAt H3 E ((entsP (paceOf cars) (plcC secs cars 0)).map entV) := by
          have e0 : (entsP (paceOf cars) (plcC secs cars 0)).map entV = L.map fun q => q.1.1.vs := by
            show (entsP (paceOf cars) (pl0 cars)).map entV = _
            rw [ents_zero ndn, ← hLs, List.map_map, List.map_map]
            rfl
          rw [e0]
          refine ⟨_, hE3, by rw [List.length_map, List.length_map], fun i t v e1 e2 => ?_⟩
          rw [List.getElem?_map] at e1 e2
          obtain ⟨q, hq, rfl⟩ := Option.map_eq_some_iff.mp e2
          rw [hq] at e1
          obtain ⟨t', ht', htv⟩ := carAt _ _ (hL3 q (List.mem_of_getElem? hq))
          have : t' = t := by
            have : ts.getD q.1.2 0 = t := Option.some.inj e1
            rw [List.getD_eq_getElem?_getD, ht'] at this
            exact this
          rw [← this]
          exact S3 _ _ htv
        clear hL2 hL3 hp2 hE3 k3 S2 hE
        intro TK hTK
        have S4 := S3.trans (sameNew hTK (.dK []))
        have hTK4 : upd H3 TK (.dK []) TK = some (.dK []) := upd_same
        have TE4 := TE.same (sameNew hTK (.dK []))
        have nTK : H TK = none := none_back S3 hTK
        generalize upd H3 TK (.dK []) = H4 at S4 hTK4 TE4 ⊢
        obtain ⟨es, e1, e2, e3⟩ := id TE4
        rw [List.length_map] at e2
        have hents : (entsP (paceOf cars) (plcC secs cars 0)).length = (pl0 cars).ord.length := by
          show (entsP (paceOf cars) (pl0 cars)).length = _
          unfold entsP
          rw [List.length_map]
        refine ⟨_, rfl, E, rfl, ⟨_, SqL.of e1⟩, fun O1 hO1 => ?_⟩
        refine lc_it walk_list (fun i H5 => Same H4 H5 ∧ H5 O1 = some (.lst (((pl0 cars).ord.take i).map V.str)))
          ⟨sameNew hO1 _, upd_same⟩ (fun i H5 _ ⟨k5, _⟩ => SqL.of (k5 _ _ e1)) ?_ ?_
        · rintro i z H5 H6 hi ⟨k5, hO⟩ ⟨e, hz⟩
          subst e
          obtain ⟨t, ht, rfl⟩ : ∃ t, es[i]? = some t ∧ z = V.ref t := by
            rw [List.getElem?_map] at hz
            obtain ⟨t, z1, z2⟩ := Option.map_eq_some_iff.mp hz
            exact ⟨t, z1, z2.symm⟩
          have hil : i < (pl0 cars).ord.length := by
            rw [List.length_map, e2, hents] at hi
            exact hi
          obtain ⟨m, hm⟩ : ∃ m, (pl0 cars).ord[i]? = some m := ⟨_, List.getElem?_eq_getElem hil⟩
          have htv := k5 _ _ (e3 i t (entV (entP (paceOf cars) (pl0 cars) m)) ht (by rw [List.getElem?_map]; show ((entsP (paceOf cars) (pl0 cars))[i]?).map entV = _; unfold entsP; rw [List.getElem?_map, hm]; rfl))
          refine ⟨rfl, yes_of ?_⟩
          refine ⟨_, rfl, t, _, _, _, rfl, rfl, SqT.of htv, rfl, _, hO, ?_, fun b o e => ?_, ?_⟩
          · rw [List.length_map, List.length_take]
            have := (pl0_perm cars).length_eq
            unfold names at this
            rw [List.length_map] at this
            exact small1000 (by omega)
          · rw [upd_ne (ne_of_none e hO1)]
            exact k5 _ _ e
          · rw [upd_same, List.take_succ, hm, List.map_append]
            rfl
        · rintro H5 ⟨k5, hO⟩
          rw [List.length_map, e2, hents, List.take_length] at hO
          have S5 := S4.trans k5
          have hTK5 := k5 _ _ hTK4
          have TE5 := TE4.same k5
          clear e1 e2 e3 hents TE4 hTK4 hO1 k5 S4 TE
          refine ⟨by show 1 ≤ sizeLine; decide, fun OD hOD => ⟨Nat.zero_le _, fun LD hLD => ⟨_, _, _, rfl, ?_⟩⟩⟩
          have Sa := sameNew hOD (.lst [.ref O1])
          have Sb := sameNew hLD (.lst [])
          have nODH : H OD = none := none_back S5 hOD
          have nLDH : H LD = none := none_back (S5.trans Sa) hLD
          have hOD6 : upd (upd H5 OD (.lst [.ref O1])) LD (.lst []) OD = some (.lst [.ref O1]) := Sb _ _ upd_same
          have hLD6 : upd (upd H5 OD (.lst [.ref O1])) LD (.lst []) LD = some (.lst []) := upd_same
          have nOL1 : O1 ≠ LD := ne_of_none (Sa _ _ hO) hLD
          have hO6 := Sb _ _ (Sa _ _ hO)
          have hTK6 := Sb _ _ (Sa _ _ hTK5)
          have TE6 := (TE5.same Sa).same Sb
          have S6 := (S5.trans Sa).trans Sb
          show tSeq _ _ _ _ (upd (upd H5 OD (.lst [.ref O1])) LD (.lst []))
          generalize upd (upd H5 OD (.lst [.ref O1])) LD (.lst []) = H6 at hOD6 hLD6 hO6 hTK6 TE6 S6 ⊢
          clear Sa Sb hO hTK5 TE5 S5 hOD hLD
          refine ⟨_, rfl, a, rfl, ⟨_, SqL.of (S6 _ _ a1)⟩, for_it walk_list (fun i σ H7 => ∃ v3 v8 v9 kt ds, σ = [some (.ref sl), some (.ref a), some (.ref p), v3, some (.ref E), some (.ref TK), some (.ref OD), some (.ref LD), v8, v9, none, none, none, none, none, none] ∧
              KeepB TK H6 H7 ∧ H7 TK = some (.dK kt) ∧ kt.map (·.1) = (cars.take i).map (fun c => (Sum.inr c.name : Key)) ∧ ds.length = i ∧ ds.Nodup ∧ (∀ d ∈ ds, H6 d = none) ∧ ∀ (q : Nat) (c : Car) (d : Addr), cars[q]? = some c → ds[q]? = some d → valV kt (Sum.inr c.name : Key) = some (.ref d) ∧ H7 d = some (.lst [.int c.start]))
            ⟨none, none, none, [], [], rfl, KeepB.refl _ _, hTK6, rfl, rfl, List.nodup_nil, fun d hd => (nomatch hd), fun q c d _ h => by simp at h⟩
            (fun i σ H7 _ ⟨_, _, _, _, _, _, k7, _⟩ => SqL.of (k7 _ _ (S6 _ _ a1) (ne_of_none a1 nTK))) ?_ ?_⟩
          · rintro i y σ Hz H7 hi ⟨v3, v8, v9, kt, ds, rfl, k7, hK, lk, dl, dn, dnew, dv⟩ ⟨e, hy⟩
            subst e
            obtain ⟨t, ht, rfl⟩ : ∃ t, ts[i]? = some t ∧ y = V.ref t := by
              rw [List.getElem?_map] at hy
              obtain ⟨t, z1, z2⟩ := Option.map_eq_some_iff.mp hy
              exact ⟨t, z1, z2.symm⟩
            rw [hal] at hi
            obtain ⟨c, hc⟩ : ∃ c, cars[i]? = some c := ⟨_, List.getElem?_eq_getElem hi⟩
            obtain ⟨t', ht', htv⟩ := carAt i c hc
            have : t' = t := by
              rw [ht] at ht'
              exact (Option.some.inj ht').symm
            subst this
            have htv7 := k7 _ _ (S6 _ _ htv) (ne_of_none htv nTK)
            refine ⟨t', _, rfl, SqT.of htv7, rfl, _, _, rfl, _, _, rfl, _, _, rfl, rfl, ?_⟩
            refine ⟨_, rfl, by show 1 ≤ sizeLine; decide, fun d hd => ?_⟩
            have nTd : TK ≠ d := ne_of_none hK hd
            have lk2 : kt.length ≤ i := by
              have := congrArg List.length lk
              rw [List.length_map, List.length_map, List.length_take] at this
              omega
            have knew : (Sum.inr c.name : Key) ∉ kt.map (·.1) := by
              rw [lk]
              intro z
              obtain ⟨c2, h2, e2⟩ := List.mem_map.mp z
              exact take_new ndn hc (List.mem_map.mpr ⟨c2, h2, Sum.inr.inj e2⟩)
            refine ⟨_, rfl, _, rfl, TK, _, rfl, DPut.k (k := (Sum.inr c.name : Key)) (by rw [upd_ne nTd]; exact hK) (small1000 (by omega)), ?_⟩
            have hdv : ∀ (q : Nat) (c' : Car) (d' : Addr), cars[q]? = some c' → ds[q]? = some d' → d' ≠ d := fun q c' d' h1 h2 => ne_of_none (dv q c' d' h1 h2).2 hd
            refine ⟨_, _, _, _, ds ++ [d], rfl, fun b o e n => ?_, upd_same, by rw [put_keys knew, lk, tk1 hc, List.map_append]; rfl, by rw [List.length_append, dl]; rfl, ?_, fun d' hd' => ?_, fun q c' d' h1 h2 => ?_⟩
            · rw [upd_ne n, upd_ne (ne_of_none (k7 b o e n) hd)]
              exact k7 b o e n
            · refine List.nodup_append.mpr ⟨dn, by simp, fun x hx y hy => ?_⟩
              rw [List.mem_singleton.mp hy]
              obtain ⟨q, hq⟩ := List.mem_iff_getElem?.mp hx
              have hql : q < cars.length := by
                have := (List.getElem?_eq_some_iff.mp hq).1
                omega
              exact hdv q _ x (List.getElem?_eq_getElem hql) hq
            · rcases List.mem_append.mp hd' with hd' | hd'
              · exact dnew d' hd'
              · rw [List.mem_singleton.mp hd']
                cases e : H6 d with
                | none => rfl
                | some o =>
                  rw [k7 d o e nTd.symm] at hd
                  cases hd
            · rcases snoc_get h2 with h2 | ⟨hq, rfl⟩
              · obtain ⟨y1, y2⟩ := dv q c' d' h1 h2
                have hne : ¬ c'.name = c.name := fun z => by
                  have b1 : (names cars)[q]? = some c.name := by unfold names; rw [List.getElem?_map, h1]; exact congrArg some z
                  have b2 : (names cars)[i]? = some c.name := by unfold names; rw [List.getElem?_map, hc]; rfl
                  have := nd_ix ndn b1 b2
                  have := (List.getElem?_eq_some_iff.mp h2).1
                  omega
                rw [valV_putS, if_neg hne]
                exact ⟨y1, by rw [upd_ne (ne_of y2 hK (by intro z; cases z)), upd_ne (hdv q c' d' h1 h2)]; exact y2⟩
              · rw [dl] at hq
                subst hq
                rw [hc] at h1
                cases h1
                rw [valV_putS, if_pos rfl]
                exact ⟨rfl, by rw [upd_ne nTd.symm, upd_same]⟩
          · rintro σ H7 ⟨v3, v8, v9, kt, ds, rfl, k7, hK, lk, dl, dn, dnew, dv⟩
            rw [hal] at dl
            have sm7 : Same H H7 := fun b o e => k7 b o (S6 _ _ e) (ne_of_none e nTK)
            have nodT : ∀ b xs, H6 b = some (.lst xs) → b ≠ TK := fun b xs e => ne_of e hTK6 (by intro z; cases z)
            have D0 : DrW H H7 secs cars 0 (tkl secs cars 0) TK OD LD ds [O1] [] := by
              refine { sm := sm7, tk := ⟨kt, hK, by rw [lk, hal, List.take_length], fun q c d h1 h2 => (dv q c d h1 h2).1⟩, dl := dl, dv := fun q c d h1 h2 => ?_, gne := fun n => ?_, dn := dn, dnew := fun d hd => none_back S6 (dnew d hd), od := k7 _ _ hOD6 (nodT _ _ hOD6), ol := rfl, ov := ?_, odn := nODH, ld := k7 _ _ hLD6 (nodT _ _ hLD6), ll := rfl, lv := ?_, ldn := nLDH, osl := fun d hd => ?_ }
              · rw [(dv q c d h1 h2).2]
                show _ = some (HO.lst [V.int (startOf cars c.name)])
                rw [startOf_car ndn (List.mem_of_getElem? h1)]
              · obtain ⟨l, hl⟩ := tkl_last secs cars 0 n
                rw [hl]
                simp
              · intro k d h
                have : k = 0 ∧ O1 = d := by
                  cases k with
                  | zero => exact ⟨rfl, by simpa using h⟩
                  | succ k => simp at h
                obtain ⟨rfl, rfl⟩ := this
                exact k7 _ _ hO6 (nodT _ _ hO6)
              · intro k d h
                simp at h
              · rw [List.mem_singleton.mp hd]
                exact nOL1
            have T0 : TupsAt H7 E ((entsP (paceOf cars) (plcC secs cars 0)).map entV) := by
              obtain ⟨es, e1, e2, e3⟩ := TE6
              exact ⟨es, k7 _ _ e1 (nodT _ _ e1), e2, fun i t v h1 h2 => k7 _ _ (e3 i t v h1 h2) (ne_of (e3 i t v h1 h2) hTK6 (by intro z; cases z))⟩
            clear k7 hK lk dn dnew dv sm7 nodT TE6 hO6 hTK6 hOD6 hLD6 S6 nOL1 hal carAt
            obtain ⟨rs, r1, r2, r3⟩ := id hR
            have hrl : (rs.map V.ref).length = secs.length := by rw [List.length_map, r2]
            refine ⟨_, rfl, sl, rfl, ⟨_, SqL.of (D0.sm _ _ r1)⟩, for_it walk_list (fun i σ H8 => ∃ v3 E v8 v9 v10 v11 v12 v13 os ls, σ = [some (.ref sl), some (.ref a), some (.ref p), v3, some (.ref E), some (.ref TK), some (.ref OD), some (.ref LD), v8, v9, v10, v11, v12, v13, none, none] ∧
                DrW H H8 secs cars i (tkl secs cars i) TK OD LD ds os ls ∧ TupsAt H8 E ((entsP (paceOf cars) (plcC secs cars i)).map entV))
              ⟨_, E, _, _, _, _, _, _, [O1], [], rfl, D0, T0⟩ (fun i σ H8 _ ⟨_, _, _, _, _, _, _, _, _, _, _, D, _⟩ => SqL.of (D.sm _ _ r1)) ?_ ?_⟩
            · rintro i y σ Hz H8 hi ⟨v3', E', v8', v9', v10, v11, v12, v13, os, ls, rfl, D, T8⟩ ⟨e, hy⟩
              subst e
              obtain ⟨t, ht, rfl⟩ : ∃ t, rs[i]? = some t ∧ y = V.ref t := by
                rw [List.getElem?_map] at hy
                obtain ⟨t, z1, z2⟩ := Option.map_eq_some_iff.mp hy
                exact ⟨t, z1, z2.symm⟩
              rw [hrl] at hi
              have hs : secs[i]? = some secs[i] := List.getElem?_eq_getElem hi
              have hct := D.sm _ _ (r3 i t _ ht hs)
              have c0 := SO.len _ (List.getElem_mem hi)
              have hfew := SO.few
              refine ⟨t, _, rfl, SqT.of hct, rfl, _, _, rfl, _, _, rfl, rfl, ?_⟩
              generalize secs[i] = sn at hs hct c0 ⊢
              have hperm := plcC_perm secs cars i
              have eN : plcC secs cars (i + 1) = stepP (paceOf cars) (plcC secs cars i) sn := plc_succ (paceOf cars) (pl0 cars) secs hs
              have eL : ∀ n, ldrC secs cars i n = leadP (paceOf cars) (plcC secs cars i) sn n := fun n => by
                show ldr (paceOf cars) (pl0 cars) secs i n = _
                unfold ldr
                rw [hs]
              have h0 : ∀ m ∈ (plcC secs cars i).ord, 0 ≤ freeP (paceOf cars) (plcC secs cars i) sn.2 m := fun m hm => free_nonneg CO (Nat.le_of_lt hi) hm
              have hndo : (plcC secs cars i).ord.Nodup := hperm.nodup_iff.mpr ndn
              have hol : (plcC secs cars i).ord.length ≤ 10 := by
                rw [hperm.length_eq]
                unfold names
                rw [List.length_map]
                exact few
              refine ⟨_, rfl, _, rfl, _, rfl, sn.1, sn.2, E', entsP (paceOf cars) (plcC secs cars i), rfl, T8, by unfold entsP; rw [List.length_map]; exact hol, c0.2, fun x hx => ?_, by rw [ents_names]; exact hndo, fun H9 t9 x l kv s9 ht9 Tx hl9 hkv nx nl => ?_⟩
              · obtain ⟨m, hm, rfl⟩ := List.mem_map.mp hx
                obtain ⟨c, hc, rfl⟩ := List.mem_map.mp (hperm.mem_iff.mp hm)
                have q := CO.all c hc
                refine ⟨tk_nonneg CO (Nat.le_of_lt hi) hm, ?_, ?_⟩
                · show 0 ≤ paceOf cars c.name
                  rw [paceOf_car ndn hc]
                  have := q.p0
                  omega
                · show paceOf cars c.name ≤ 60
                  rw [paceOf_car ndn hc]
                  exact q.p1
              rw [outS_step hndo h0, ← eN] at Tx
              have hkv2 : ∀ n, valV kv (Sum.inr n : Key) = (ldrC secs cars i n).map V.str := fun n => by rw [hkv n, ldS_lead h0, eL]
              have nxO : x ≠ OD := (ne_of_none D.od nx).symm
              have nxL : x ≠ LD := (ne_of_none D.ld nx).symm
              have hperm1 := plcC_perm secs cars (i + 1)
              have hol1 : (plcC secs cars (i + 1)).ord.length ≤ 10 := by
                rw [hperm1.length_eq]
                unfold names
                rw [List.length_map]
                exact few
              have hndo1 : (plcC secs cars (i + 1)).ord.Nodup := hperm1.nodup_iff.mpr ndn
              have D9 := D.step s9
              clear hkv eN eL h0 nx nl T8
              refine ⟨t9, _, rfl, SqT.of ht9, rfl, _, _, rfl, _, _, rfl, rfl, ?_⟩
              have hxl : ((entsP (paceOf cars) (plcC secs cars (i + 1))).map entV).length = (plcC secs cars (i + 1)).ord.length := by
                unfold entsP
                rw [List.length_map, List.length_map]
              obtain ⟨xs, x1, x2, x3⟩ := id Tx
              rw [hxl] at x2
              have hxs : (xs.map V.ref).length = (plcC secs cars (i + 1)).ord.length := by rw [List.length_map, x2]
              refine ⟨_, rfl, x, rfl, ⟨_, SqL.of x1⟩, for_it walk_list (fun j σ H10 => ∃ v3 v8 v9 v13, σ = [some (.ref sl), some (.ref a), some (.ref p), v3, some (.ref x), some (.ref TK), some (.ref OD), some (.ref LD), v8, v9, some (.str (kindS sn.1)), some (.int ((sn.2 : Nat) : Int)), some (.ref l), v13, none, none] ∧
                  DrW H H10 secs cars i (gOf (tkl secs cars i) (rowsE ((entsP (paceOf cars) (plcC secs cars (i + 1))).take j))) TK OD LD ds os ls ∧ H10 x = some (.lst (xs.map V.ref)) ∧ (∀ (i' : Nat) (t : Addr) (v : List V), xs[i']? = some t → ((entsP (paceOf cars) (plcC secs cars (i + 1))).map entV)[i']? = some v → H10 t = some (.tup v)) ∧ H10 l = some (.dK kv))
                ⟨_, _, _, _, rfl, by rw [List.take_zero, show rowsE [] = [] from rfl, gOf_nil]; exact D9, x1, x3, hl9⟩ (fun j σ H10 _ ⟨_, _, _, _, _, _, y1, _⟩ => SqL.of y1) ?_ ?_⟩
              · rintro j y σ Hz H10 hj ⟨w3, w8, w9, w13, rfl, D10, y1, y3, hl10⟩ ⟨e, hy⟩
                subst e
                obtain ⟨t, ht, rfl⟩ : ∃ t, xs[j]? = some t ∧ y = V.ref t := by
                  rw [List.getElem?_map] at hy
                  obtain ⟨t, z1, z2⟩ := Option.map_eq_some_iff.mp hy
                  exact ⟨t, z1, z2.symm⟩
                rw [hxs] at hj
                obtain ⟨m, hm⟩ : ∃ m, (plcC secs cars (i + 1)).ord[j]? = some m := ⟨_, List.getElem?_eq_getElem hj⟩
                have hem : (entsP (paceOf cars) (plcC secs cars (i + 1)))[j]? = some (entP (paceOf cars) (plcC secs cars (i + 1)) m) := by unfold entsP; rw [List.getElem?_map, hm]; rfl
                have htv := y3 j t _ ht (by rw [List.getElem?_map, hem]; rfl)
                obtain ⟨c, hc, rfl⟩ := List.mem_map.mp (hperm1.mem_iff.mp (List.mem_of_getElem? hm))
                obtain ⟨q, hq⟩ := List.mem_iff_getElem?.mp hc
                obtain ⟨d, hd⟩ : ∃ d, ds[q]? = some d := ⟨_, List.getElem?_eq_getElem (by rw [D10.dl]; exact (List.getElem?_eq_some_iff.mp hq).1)⟩
                obtain ⟨kt, hK, _, hKv⟩ := D10.tk
                have hdv := D10.dv q c d hq hd
                have hnw : c.name ∉ (rowsE ((entsP (paceOf cars) (plcC secs cars (i + 1))).take j)).map (·.1) := by
                  have e1 : (rowsE ((entsP (paceOf cars) (plcC secs cars (i + 1))).take j)).map (·.1) = ((entsP (paceOf cars) (plcC secs cars (i + 1))).take j).map (·.1) := by
                    unfold rowsE
                    rw [List.map_map]
                    rfl
                  rw [e1]
                  exact ents_new (by rw [ents_names]; exact hndo1) hem
                have hlen : (gOf (tkl secs cars i) (rowsE ((entsP (paceOf cars) (plcC secs cars (i + 1))).take j)) c.name).length = i + 1 := by
                  unfold gOf
                  rw [look_none hnw]
                  show (tkl secs cars i c.name ++ []).length = _
                  unfold tkl
                  simp
                refine ⟨t, _, rfl, SqT.of htv, rfl, _, _, rfl, _, _, rfl, _, _, rfl, rfl, ?_⟩
                refine ⟨_, rfl, _, rfl, TK, _, rfl, gk hK (hKv q c d hq hd), .inl ⟨rfl, _, SqL.of hdv⟩, _, rfl, d, _, _, rfl, rfl, hdv, by rw [List.length_map, hlen]; exact small1000 (by omega), ?_⟩
                have D11 := D10.tick ndn hq hd ((plcC secs cars (i + 1)).tk c.name)
                have e5 : (fun n => if n = c.name then gOf (tkl secs cars i) (rowsE ((entsP (paceOf cars) (plcC secs cars (i + 1))).take j)) c.name ++ [(plcC secs cars (i + 1)).tk c.name] else gOf (tkl secs cars i) (rowsE ((entsP (paceOf cars) (plcC secs cars (i + 1))).take j)) n) = gOf (tkl secs cars i) (rowsE ((entsP (paceOf cars) (plcC secs cars (i + 1))).take (j + 1))) := by
                  have := gOf_snoc (tkl secs cars i) (rowsE ((entsP (paceOf cars) (plcC secs cars (i + 1))).take j)) (c.name, (plcC secs cars (i + 1)).tk c.name, none) hnw
                  have e6 : rowsE ((entsP (paceOf cars) (plcC secs cars (i + 1))).take (j + 1)) = rowsE ((entsP (paceOf cars) (plcC secs cars (i + 1))).take j) ++ [(c.name, (plcC secs cars (i + 1)).tk c.name, none)] := by
                    unfold rowsE
                    rw [List.take_add_one, hem, List.map_append]
                    rfl
                  rw [e6, ← this]
                rw [e5] at D11
                have nel := D10.gne c.name
                refine ⟨_, _, _, _, rfl, D11, by rw [upd_ne (ne_of y1 hdv (ints_ref nel).symm)]; exact y1, fun i' t' v' h1 h2 => by rw [upd_ne (ne_of (y3 i' t' v' h1 h2) hdv (by intro z; cases z))]; exact y3 i' t' v' h1 h2, by rw [upd_ne (ne_of hl10 hdv (by intro z; cases z))]; exact hl10⟩
              · rintro σ H10 ⟨w3, w8, w9, w13, rfl, D10, y1, y3, hl10⟩
                have htk : (entsP (paceOf cars) (plcC secs cars (i + 1))).take (xs.map V.ref).length = entsP (paceOf cars) (plcC secs cars (i + 1)) := by
                  rw [hxs]
                  rw [List.length_map] at hxl
                  rw [← hxl, List.take_length]
                rw [htk] at D10
                have D11 := D10.congr (g' := tkl secs cars (i + 1)) (fun c hc => gOf_full CO hc) (fun n => by
                  obtain ⟨l, hl⟩ := tkl_last secs cars (i + 1) n
                  rw [hl]
                  simp)
                refine ⟨_, rfl, .inl ⟨rfl, _, SqL.of D11.od⟩, _, rfl, x, rfl, ⟨_, SqL.of y1⟩, fun O2 hO2 => ?_⟩
                refine lc_it walk_list (fun j H12 => Same H10 H12 ∧ H12 O2 = some (.lst (((plcC secs cars (i + 1)).ord.take j).map V.str)))
                  ⟨sameNew hO2 _, upd_same⟩ (fun j H12 _ ⟨k12, _⟩ => SqL.of (k12 _ _ y1)) ?_ ?_
                · rintro j z Hz H12 hj ⟨k12, hO12⟩ ⟨e, hz⟩
                  subst e
                  obtain ⟨t, ht, rfl⟩ : ∃ t, xs[j]? = some t ∧ z = V.ref t := by
                    rw [List.getElem?_map] at hz
                    obtain ⟨t, z1, z2⟩ := Option.map_eq_some_iff.mp hz
                    exact ⟨t, z1, z2.symm⟩
                  rw [hxs] at hj
                  obtain ⟨m, hm⟩ : ∃ m, (plcC secs cars (i + 1)).ord[j]? = some m := ⟨_, List.getElem?_eq_getElem hj⟩
                  have htv := k12 _ _ (y3 j t (entV (entP (paceOf cars) (plcC secs cars (i + 1)) m)) ht (by rw [List.getElem?_map]; unfold entsP; rw [List.getElem?_map, hm]; rfl))
                  refine ⟨rfl, yes_of ?_⟩
                  refine ⟨_, rfl, t, _, _, _, rfl, rfl, SqT.of htv, rfl, _, hO12, ?_, fun b o e => ?_, ?_⟩
                  · rw [List.length_map, List.length_take]
                    exact small1000 (by omega)
                  · rw [upd_ne (ne_of_none e hO2)]
                    exact k12 _ _ e
                  · rw [upd_same, List.take_succ, hm, List.map_append]
                    rfl
                · rintro H12 ⟨k12, hO12⟩
                  rw [hxs, List.take_length] at hO12
                  have D12 := D11.step k12
                  have nO2L : O2 ≠ LD := (ne_of_none D11.ld hO2).symm
                  have nOL := D12.nOL
                  have hLD2 : ∀ o, upd H12 OD o LD = some (.lst (ls.map V.ref)) := fun o => by rw [upd_ne nOL.symm]; exact D12.ld
                  have lol := D12.ol
                  have lll := D12.ll
                  refine ⟨OD, _, _, rfl, rfl, D12.od, by rw [List.length_map, lol]; exact small1000 (by omega), ?_⟩
                  refine ⟨_, rfl, .inl ⟨rfl, _, SqL.of (hLD2 _)⟩, _, rfl, LD, _, _, rfl, rfl, hLD2 _, by rw [List.length_map, lll]; exact small1000 (by omega), ?_⟩
                  refine ⟨_, x, _, _, _, _, _, _, os ++ [O2], ls ++ [l], rfl, D12.put hO12 nO2L (k12 _ _ hl10) hkv2, xs, ?_, ?_, fun i' t' v' h1 h2 => ?_⟩
                  · rw [upd_ne nxL, upd_ne nxO]
                    exact k12 _ _ y1
                  · rw [hxl]
                    exact x2
                  · have := k12 _ _ (y3 i' t' v' h1 h2)
                    rw [upd_ne (ne_of this D12.ld (by intro z; cases z)), upd_ne (ne_of this D12.od (by intro z; cases z))]
                    exact this
            · rintro σ H8 ⟨v3', E', v8', v9', v10, v11, v12, v13, os, ls, rfl, D, T8⟩
              rw [hrl] at D
              refine ⟨_, rfl, _, rfl, _, rfl, by show 3 ≤ sizeLine; decide, fun t ht => ?_⟩
              have D1 := D.step (sameNew ht (.tup [.ref TK, .ref OD, .ref LD]))
              refine k _ t TK OD LD D1.sm upd_same ?_ ⟨os, D1.od, D1.ol, D1.ov⟩ ⟨ls, D1.ld, D1.ll, D1.lv⟩ nTK nODH nLDH
              obtain ⟨kt, h1, hk1, h2⟩ := D1.tk
              refine ⟨kt, h1, hk1, fun c hc => ?_⟩
              obtain ⟨q, hq⟩ := List.mem_iff_getElem?.mp hc
              obtain ⟨d, hd⟩ : ∃ d, ds[q]? = some d := ⟨_, List.getElem?_eq_getElem (by rw [D1.dl]; exact (List.getElem?_eq_some_iff.mp hq).1)⟩
              exact ⟨d, h2 q c d hq hd, D1.dv q c d hq hd⟩
end
end Sl

set_option Elab.async false
set_option linter.all false
set_option maxRecDepth 100000
set_option maxHeartbeats 2000000
namespace L2
open PySem PySem.Spec PyProof.Rows
/-- a dict that is made here and only read from here on -/
def tFrz (te : TE) : TE := fun σ H Q => te σ H fun x H1 => ∃ d u, x = .ref d ∧ H1 d = some u ∧ Mut (some u) ∧ ∀ od, Q x (upd H1 d (.frz od u))
theorem pe_frz {X : Cx} {e : Expr} {te : TE} (he : PE X e te) : PE X e (tFrz te) := by
  refine ⟨fun pins s σ H Q I h => ?_⟩
  refine thn (he.run pins s σ H _ I h) fun v s1 ⟨x, H1, I1, r1, d, u, ex, hd, mu, q⟩ => ?_
  obtain ⟨od, I2⟩ := I1.lock hd mu
  exact ⟨x, _, I2, r1, q od⟩
end L2
namespace Sl
open PySem PySem.Spec L2 OwnR LamX
theorem gkF {H : Hp} {a : Addr} {o : Obj} {kvs : List (Key × V)} {n : Str} {v : V} (e : H a = some (.frz o (.dK kvs))) (h : valV kvs (Sum.inr n : Key) = some v) : DGet H a (.str n) (some v) := .inl ⟨kvs, Sum.inr n, .inr ⟨o, e⟩, rfl, h.symm⟩
theorem paired_ix {α β : Type} {F : α → β → Prop} : ∀ (l1 : List α) (l2 : List β), l1.length = l2.length → (∀ (i : Nat) (a : α) (b : β), l1[i]? = some a → l2[i]? = some b → F a b) → Paired F l1 l2
  | [], [], _, _ => .nil
  | [], _ :: _, h, _ => by simp at h
  | _ :: _, [], h, _ => by simp at h
  | a :: r, b :: q, h, f => .cons (f 0 a b rfl rfl) (paired_ix r q (by simpa using h) fun i x y e1 e2 => f (i + 1) x y (by simpa using e1) (by simpa using e2))
section
variable {P : Program} {w : World} {K : PySem.W.Frag} {mg : Str → Option Value} {base : Heap}
/-! ### _law_arrivals -/
theorem merge_take {g : Car → V} {cars : List Car} (nd : (names cars).Nodup) : ∀ i, i ≤ cars.length → mergeK [] ((cars.take i).map fun c => ((Sum.inr c.name : Key), g c)) = (cars.take i).map fun c => ((Sum.inr c.name : Key), g c) := by
  intro i
  induction i with
  | zero => intro _; rfl
  | succ i ih =>
    intro hi
    obtain ⟨c, hc⟩ : ∃ c, cars[i]? = some c := ⟨_, List.getElem?_eq_getElem (by omega)⟩
    have e1 : (cars.take (i + 1)).map (fun c => ((Sum.inr c.name : Key), g c)) = (cars.take i).map (fun c => ((Sum.inr c.name : Key), g c)) ++ [((Sum.inr c.name : Key), g c)] := by
      rw [List.take_add_one, hc, List.map_append]
      rfl
    have e2 : mergeK [] ((cars.take (i + 1)).map fun c => ((Sum.inr c.name : Key), g c)) = putK (mergeK [] ((cars.take i).map fun c => ((Sum.inr c.name : Key), g c))) (Sum.inr c.name : Key) (g c) := by
      rw [e1]
      unfold mergeK
      rw [List.foldl_append]
      rfl
    rw [e2, ih (by omega), put_car (g := g) nd hc]
theorem merge_cars {g : Car → V} {cars : List Car} (nd : (names cars).Nodup) : mergeK [] (cars.map fun c => ((Sum.inr c.name : Key), g c)) = cars.map fun c => ((Sum.inr c.name : Key), g c) := by
  have := merge_take (g := g) nd cars.length (Nat.le_refl _)
  rwa [List.take_length] at this
def arrK (secs : List Sec) (cars : List Car) : List (Key × V) := cars.map fun c => ((Sum.inr c.name : Key), V.int ((plcC secs cars secs.length).tk c.name))
def spArrs : Sp := fun vs H Q _ => ∃ (s a : Addr) (secs : List Sec) (cars : List Car), vs = [.ref s, .ref a] ∧ RunsAt H s secs ∧ TupsAt H a (cars.map Car.vs) ∧ SecsOk secs ∧ CarsW cars ∧ ∀ H' d, Same H H' → H' d = some (.dK (arrK secs cars)) → Q (.ref d) H'
def nArrs : List Str := ["_law_parts_here", "_law_cars_here", "_law_ticks", "_law_name"]
theorem scArrs : FnScope nArrs ["_law_parts_here", "_law_cars_here"] (defScope sArrivals) := ⟨rfl, rfl, rfl, by decide +kernel, rfl, by decide +kernel, by decide +kernel⟩
theorem ok_arrs {f : Addr} {fd : FuncData} (F : Fun K "_law_arrivals" "_law_arrivals" sArrivals f fd) (Md : mg "dict" = none) (IV : ∃ f fd, Fb K mg "_law_driven" sDriven ["_law_parts_here", "_law_cars_here"] f fd ∧ FnOk P w K mg base CX0 2 f fd ["_law_parts_here", "_law_cars_here"] spDrivenW) :
    FnOk P w K mg base CX0 3 f fd ["_law_parts_here", "_law_cars_here"] spArrs := by
  refine F.ok scArrs (fun vs H Q E h => ?_) (fun cdv A outer s H vs Q E hr h => ?_)
  · obtain ⟨l, a, secs, cars, rfl, _⟩ := h
    rfl
  · obtain ⟨l, a, secs, cars, rfl, rn, ct, SO, CO, k⟩ := h
    have nd := scArrs.nd
    have hu := hu_of hr
    obtain ⟨fV, dV, BV, GV⟩ := IV
    refine ⟨_, (pss_cons (ps_set (i := 2) nd rfl (.inr rfl) (pe_ix ix_tup (pe_call GV hr (by rfl) BV.at_ BV.fn.kp BV.bd .nil pass0 (pa_cons (pv 0) (pa_cons (pv 1) pa_nil))) pe_int (fun _ _ => rfl)))
      (pss_one (ps_ret (pe_callTy (call_dictP rfl) (by rfl) Md (by decide +kernel) (pa_cons (pe_lc (own := [("_law_name", 3)]) (g := gName 3) (tt := tYes) (te := tTup (tCons (tVar 3) (tCons (tOp (rIxL K) (tDGet (tVar 2) (tVar 3)) (tUn (rU fun i => .int (-i)) (tC (.int 1)))) tNil))) (by rfl) nd (pi_keys (pe_frz (pv 2))) (blkOk_by (N := nArrs) (sc := defScope sArrivals) (by decide +kernel))
        (fun _ _ _ _ _ => pg_name (i := 3) nd rfl (Or.inl rfl)) (fun _ _ _ _ _ => pts_nil) (fun _ _ _ _ _ => pe_tup (pa_cons (pv 3) (pa_cons (pe_ix (r := rIxL K) ix_list (pe_dget hu (pv 2) (pv 3) (fun _ _ => rfl)) (pe_un un_neg pe_int) (fun _ _ => rfl)) pa_nil)))) pa_nil))))), ?_⟩
    have few := CO.few
    refine ⟨_, rfl, _, rfl, l, a, secs, cars, rfl, rn, ct, SO, CO, fun H1 t tk od ld s1 ht ⟨kt, a1, a2, a3⟩ _ _ ntk _ _ => ?_⟩
    refine ⟨t, _, _, _, rfl, rfl, SqT.of ht, rfl, ?_⟩
    have lk : kt.length = cars.length := by
      have := congrArg List.length a2
      simpa using this
    refine ⟨_, rfl, tk, _, rfl, a1, True.intro, fun od => ?_⟩
    have s2 : Same H (upd H1 tk (.frz od (.dK kt))) := fun b o e => by rw [upd_ne (ne_of_none e ntk)]; exact s1 _ _ e
    have hk : upd H1 tk (.frz od (.dK kt)) tk = some (.frz od (.dK kt)) := upd_same
    have vals : ∀ (i : Nat) (c : Car), cars[i]? = some c → ∃ d l0, valV kt (Sum.inr c.name : Key) = some (.ref d) ∧ upd H1 tk (.frz od (.dK kt)) d = some (.lst (l0 ++ [V.int ((plcC secs cars secs.length).tk c.name)])) := fun i c hc => by
      obtain ⟨d, h1, h2⟩ := a3 c (List.mem_of_getElem? hc)
      obtain ⟨l0, e⟩ := tkl_last secs cars secs.length c.name
      refine ⟨d, l0.map V.int, h1, ?_⟩
      rw [upd_ne (ne_of h2 a1 (by intro z; cases z)), h2, e, List.map_append]
      rfl
    generalize upd H1 tk (.frz od (.dK kt)) = H2 at s2 hk vals ⊢
    refine ⟨tk, od, rfl, .inl ⟨kt, hk, fun D hD => ?_⟩⟩
    refine lc_it walk_keys (fun i H3 => Same H2 H3 ∧ ∃ ps : List Addr, H3 D = some (.lst (ps.map V.ref)) ∧ ps.length = i ∧ ∀ (q : Nat) (t : Addr) (c : Car), ps[q]? = some t → cars[q]? = some c → H3 t = some (.tup [.str c.name, .int ((plcC secs cars secs.length).tk c.name)]))
      ⟨sameNew hD _, [], upd_same, rfl, fun q t c e => by simp at e⟩ (fun i H3 _ ⟨k3, _⟩ => k3 _ _ hk) ?_ ?_
    · rintro i y Hz H3 hi ⟨k3, ps, p1, p2, p3⟩ ⟨e, kk, vv, hkk, ex⟩
      subst e ex
      rw [lk] at hi
      obtain ⟨c, hc⟩ : ∃ c, cars[i]? = some c := ⟨_, List.getElem?_eq_getElem hi⟩
      have ekk : kk = Sum.inr c.name := by
        have h1 := congrArg (fun l => l[i]?) a2
        simp only [List.getElem?_map, hkk, hc, Option.map_some] at h1
        exact Option.some.inj h1
      subst ekk
      obtain ⟨d, l0, v1, v2⟩ := vals i c hc
      refine ⟨rfl, yes_of ?_⟩
      refine ⟨_, rfl, _, rfl, _, rfl, tk, _, rfl, gkF (k3 _ _ hk) v1, _, rfl, d, _, _, _, rfl, rfl, SqL.of (k3 _ _ v2), atI_last _ _, by show 2 ≤ sizeLine; decide, fun x hx => ?_⟩
      have sx := sameNew hx (.tup [.str c.name, .int ((plcC secs cars secs.length).tk c.name)])
      have p1' := sx _ _ p1
      refine ⟨_, p1', small1000 (by rw [List.length_map, p2]; omega), fun b o e => by rw [upd_ne (ne_of_none e hD)]; exact sx _ _ (k3 _ _ e), ps ++ [x], by rw [upd_same, List.map_append]; rfl, by rw [List.length_append, p2]; rfl, fun q t' c' e1 e2 => ?_⟩
      have key : upd H3 x (.tup [.str c.name, .int ((plcC secs cars secs.length).tk c.name)]) t' = some (.tup [.str c'.name, .int ((plcC secs cars secs.length).tk c'.name)]) := by
        rcases snoc_get e1 with e1 | ⟨hq, rfl⟩
        · exact sx _ _ (p3 q t' c' e1 e2)
        · rw [hq, p2, hc] at e2
          cases e2
          exact upd_same
      rw [upd_ne (ne_of key p1' (by intro z; cases z))]
      exact key
    rintro H3 ⟨k3, ps, p1, p2, p3⟩
    rw [lk] at p2
    refine ⟨D, ps, arrK secs cars, rfl, SqL.of p1, paired_ix _ _ (by rw [p2]; unfold arrK; rw [List.length_map]) (fun i t kv e1 e2 => ?_), fun d hd => ?_⟩
    · unfold arrK at e2
      rw [List.getElem?_map] at e2
      obtain ⟨c, hc, rfl⟩ := Option.map_eq_some_iff.mp e2
      exact SqT.of (p3 i t c e1 hc)
    · unfold arrK
      rw [merge_cars CO.nd]
      exact k _ d (s2.trans (k3.trans (sameNew hd _))) upd_same
end
end Sl

set_option Elab.async false
set_option linter.all false
set_option maxRecDepth 100000
set_option maxHeartbeats 2000000
namespace Sl
open PySem PySem.Spec L2 OwnR LamX
section
variable {P : Program} {w : World} {K : PySem.W.Frag} {mg : Str → Option Value} {base : Heap}
/-! ### _law_lost -/
def spLost : Sp := fun vs H Q _ => ∃ (l a : Addr) (secs : List Sec) (cars : List Car), vs = [.ref l, .ref a] ∧ RunsAt H l secs ∧ TupsAt H a (cars.map Car.vs) ∧ SecsOk secs ∧ CarsOk cars ∧ ∀ H' b, Same H H' → H' b = some (.lst (cars.map fun c => V.int (lossOf secs cars c))) → Q (.ref b) H'
def nLost : List Str := ["_law_parts_here", "_law_cars_here", "_law_whole", "_law_found", "_law_kind", "_law_length", "_law_name", "_law_start", "_law_pace"]
theorem scLost : FnScope nLost ["_law_parts_here", "_law_cars_here"] (defScope sLost) := ⟨rfl, rfl, rfl, by decide +kernel, rfl, by decide +kernel, by decide +kernel⟩
theorem arrK_get {secs : List Sec} {cars : List Car} (nd : (names cars).Nodup) {n : Str} (hn : n ∈ names cars) : valV (arrK secs cars) (Sum.inr n : Key) = some (.int ((plcC secs cars secs.length).tk n)) := by
  obtain ⟨c, hc, rfl⟩ := List.mem_map.mp hn
  exact valV_names (g := fun c => V.int ((plcC secs cars secs.length).tk c.name)) nd hc
theorem ok_lost {f : Addr} {fd : FuncData} (F : Fun K "_law_lost" "_law_lost" sLost f fd) (M : Mg mg) (IA : ∃ f fd, Fb K mg "_law_arrivals" sArrivals ["_law_parts_here", "_law_cars_here"] f fd ∧ FnOk P w K mg base CX0 3 f fd ["_law_parts_here", "_law_cars_here"] spArrs) : FnOk P w K mg base CX0 4 f fd ["_law_parts_here", "_law_cars_here"] spLost := by
  refine F.ok scLost (fun vs H Q E h => ?_) (fun cdv A outer s H vs Q E hr h => ?_)
  · obtain ⟨l, a, secs, cars, rfl, _⟩ := h
    rfl
  · obtain ⟨l, a, secs, cars, rfl, ⟨us, u1, u2, u3⟩, tp, SO, CO, k⟩ := h
    have nd := scLost.nd
    have hu := hu_of hr
    obtain ⟨fA, dA, BA, GA⟩ := IA
    refine ⟨_, pss_cons (ps_asg (pe_tup (pa_cons (pe_callB (cr_sum rfl) (by rfl) M.sum PyProof.Rows.boot_sum (pa_cons (pe_lc (own := [("_law_kind", 4), ("_law_length", 5)]) (g := gTup K 2 (gCons (gName 4) (gCons (gName 5) gNil))) (tt := tYes) (te := tVar 5) (by rfl) nd (pi_list (pv 0)) (blkOk_by (N := nLost) (sc := defScope sLost) (by decide +kernel))
        (fun _ _ _ _ _ => pg_tup rfl (pgs_cons (pg_name (i := 4) nd rfl (Or.inl rfl)) (pgs_cons (pg_name (i := 5) nd rfl (Or.inl rfl)) pgs_nil))) (fun _ _ _ _ _ => pts_nil) (fun _ _ _ _ _ => pv 5)) pa_nil)) (pa_cons (pe_call GA hr (by rfl) BA.at_ BA.fn.kp BA.bd .nil pass0 (pa_cons (pv 0) (pa_cons (pv 1) pa_nil))) pa_nil))) (pg_tup rfl (pgs_cons (pg_name (i := 2) nd rfl (.inr rfl)) (pgs_cons (pg_name (i := 3) nd rfl (.inr rfl)) pgs_nil))))
      (pss_one (ps_ret (pe_lc (own := [("_law_name", 6), ("_law_start", 7), ("_law_pace", 8)]) (g := gTup K 3 (gCons (gName 6) (gCons (gName 7) (gCons (gName 8) gNil)))) (tt := tYes) (te := tOp (rI0 fun i j => .int (i - j)) (tOp (rI0 fun i j => .int (i - j)) (tDGet (tVar 3) (tVar 6)) (tVar 7)) (tOp (rI CMul fun i j => .int (i * j)) (tVar 8) (tVar 2))) (by rfl) nd (pi_list (pv 1)) (blkOk_by (N := nLost) (sc := defScope sLost) (by decide +kernel))
        (fun _ _ _ _ _ => pg_tup rfl (pgs_cons (pg_name (i := 6) nd rfl (Or.inl rfl)) (pgs_cons (pg_name (i := 7) nd rfl (Or.inl rfl)) (pgs_cons (pg_name (i := 8) nd rfl (Or.inl rfl)) pgs_nil)))) (fun _ _ _ _ _ => pts_nil) (fun _ _ _ _ _ => pe_op op_sub (pe_op op_sub (pe_dget hu (pv 3) (pv 6) (fun _ _ => rfl)) (pv 7)) (pe_op op_mul (pv 8) (pv 2)))))), ?_⟩
    have few := CO.few
    have h12 := SO.few
    have e12 : (us.map V.ref).length = secs.length := by rw [List.length_map, u2]
    refine ⟨_, rfl, l, rfl, ⟨_, SqL.of u1⟩, fun L hL => ?_⟩
    refine lc_it walk_list (fun i H1 => Same H H1 ∧ H1 L = some (.lst ((secs.take i).map fun s => V.int ((s.2 : Nat) : Int))))
      ⟨sameNew hL _, upd_same⟩ (fun i H1 _ ⟨k1, _⟩ => SqL.of (k1 _ _ u1)) ?_ ?_
    · rintro i y H2 H1 hi ⟨k1, hL1⟩ ⟨e, hy⟩
      subst e
      obtain ⟨t, ht, rfl⟩ : ∃ t, us[i]? = some t ∧ y = V.ref t := by
        rw [List.getElem?_map] at hy
        obtain ⟨t, z1, z2⟩ := Option.map_eq_some_iff.mp hy
        exact ⟨t, z1, z2.symm⟩
      have hic : i < secs.length := by rw [e12] at hi; exact hi
      have hc : secs[i]? = some secs[i] := List.getElem?_eq_getElem hic
      have hct := k1 _ _ (u3 i t _ ht hc)
      refine ⟨t, _, rfl, SqT.of hct, rfl, _, _, rfl, _, _, rfl, rfl, rfl, yes_of ?_⟩
      refine ⟨_, rfl, _, hL1, by rw [List.length_map, List.length_take]; exact small1000 (by omega), fun b o e => by rw [upd_ne (ne_of_none e hL)]; exact k1 _ _ e, ?_⟩
      rw [upd_same, tk1 hc, List.map_append]
      rfl
    rintro H1 ⟨k1, hL1⟩
    rw [e12, List.take_length] at hL1
    refine ⟨L, secs.map fun s => ((s.2 : Nat) : Int), rfl, SqL.of (by rw [hL1, List.map_map]; rfl), ?_⟩
    have eS : (secs.map fun s => ((s.2 : Nat) : Int)).sum = ((unitsN secs : Nat) : Int) := by
      unfold unitsN
      rw [← sum_int, List.map_map]
      rfl
    rw [eS]
    refine ⟨_, rfl, _, rfl, l, a, secs, cars, rfl, ⟨us, k1 _ _ u1, u2, fun i t s e1 e2 => k1 _ _ (u3 i t s e1 e2)⟩, tp.ext (ExtN.same k1), SO, CO.w, fun H2 d s2 hd => ?_⟩
    refine ⟨by show 2 ≤ sizeLine; decide, fun x hx => ⟨x, _, rfl, SqT.of upd_same, rfl, _, _, rfl, _, _, rfl, rfl, ?_⟩⟩
    have s3 := k1.trans (s2.trans (sameNew hx (.tup [V.int ((unitsN secs : Nat) : Int), V.ref d])))
    have d3 := sameNew hx (.tup [V.int ((unitsN secs : Nat) : Int), V.ref d]) _ _ hd
    generalize upd H2 x (.tup [V.int ((unitsN secs : Nat) : Int), V.ref d]) = H3 at s3 d3 ⊢
    obtain ⟨ts, c1, c2, c3⟩ := tp.ext (ExtN.same s3)
    rw [List.length_map] at c2
    have hl : (ts.map V.ref).length = cars.length := by rw [List.length_map, c2]
    refine ⟨_, rfl, a, rfl, ⟨_, SqL.of c1⟩, fun D hD => ?_⟩
    refine lc_it walk_list (fun i H4 => Same H3 H4 ∧ H4 D = some (.lst ((cars.take i).map fun c => V.int (lossOf secs cars c))))
      ⟨sameNew hD _, upd_same⟩ (fun i H4 _ ⟨k4, _⟩ => SqL.of (k4 _ _ c1)) ?_ ?_
    · rintro i y H5 H4 hi ⟨k4, hD4⟩ ⟨e, hy⟩
      subst e
      obtain ⟨t, ht, rfl⟩ : ∃ t, ts[i]? = some t ∧ y = V.ref t := by
        rw [List.getElem?_map] at hy
        obtain ⟨t, z1, z2⟩ := Option.map_eq_some_iff.mp hy
        exact ⟨t, z1, z2.symm⟩
      rw [hl] at hi
      obtain ⟨c, hc⟩ : ∃ c, cars[i]? = some c := ⟨_, List.getElem?_eq_getElem hi⟩
      have hcm := List.mem_of_getElem? hc
      have hct := k4 _ _ (c3 i t c.vs ht (by rw [List.getElem?_map, hc]; rfl))
      have pb := CO.all _ hcm
      have hn : c.name ∈ names cars := List.mem_map.mpr ⟨c, hcm, rfl⟩
      have el : lossOf secs cars c = (plcC secs cars secs.length).tk c.name - c.start - c.pace * ((unitsN secs : Nat) : Int) := by
        unfold lossOf
        rw [startOf_car CO.nd hcm]
      refine ⟨t, _, rfl, SqT.of hct, rfl, _, _, rfl, _, _, rfl, _, _, rfl, rfl, rfl, yes_of ?_⟩
      refine ⟨_, rfl, _, rfl, d, _, rfl, gk (k4 _ _ d3) (arrK_get CO.nd hn), _, rfl, _, _, rfl, rfl, _, rfl, _, rfl, _, _, rfl, rfl, .inl ⟨by have := pb.p0; omega, by have := pb.p1; omega⟩, _, _, rfl, rfl, ?_⟩
      refine ⟨_, hD4, by rw [List.length_map, List.length_take]; exact small1000 (by omega), fun b o e => by rw [upd_ne (ne_of_none e hD)]; exact k4 _ _ e, ?_⟩
      rw [upd_same, tk1 hc, List.map_append]
      show some (HO.lst (_ ++ [V.int ((plcC secs cars secs.length).tk c.name - c.start - c.pace * ((unitsN secs : Nat) : Int))])) = some (HO.lst (_ ++ [V.int (lossOf secs cars c)]))
      rw [el]
    rintro H4 ⟨k4, hD4⟩
    rw [hl, List.take_length] at hD4
    exact k H4 D (s3.trans k4) hD4
end
end Sl

set_option Elab.async false
set_option linter.all false
set_option maxRecDepth 100000
set_option maxHeartbeats 2000000
/-! _law_told: what a call gives, or what its error says. -/
namespace Sl
open PySem PySem.Spec L2 OwnR LamX
/-- the classes that it knows -/
structure ErrTab (mg : Str → Option Value) (CE c0 c1 c2 c3 c4 : Addr) : Prop where
  gE : mg "RoadError" = some (.ref CE)
  g0 : mg "InvalidRoad" = some (.ref c0)
  g1 : mg "InvalidCars" = some (.ref c1)
  g2 : mg "UnknownSection" = some (.ref c2)
  g3 : mg "UnknownCar" = some (.ref c3)
  g4 : mg "InvalidNumber" = some (.ref c4)
  gv : mg "ValueError" = none
/-- C is the j-th of them -/
structure ErrJ (K : PySem.W.Frag) (CE c0 c1 c2 c3 c4 C : Addr) (j : Nat) : Prop where
  e : ErrC K C
  x : PySem.W.exmOne K (.ref C) (.ref CE) = some true
  k0 : PySem.W.kitOne K (.ref C) (.ref c0) = some (decide (j = 0))
  k1 : PySem.W.kitOne K (.ref C) (.ref c1) = some (decide (j = 1))
  k2 : PySem.W.kitOne K (.ref C) (.ref c2) = some (decide (j = 2))
  k3 : PySem.W.kitOne K (.ref C) (.ref c3) = some (decide (j = 3))
  k4 : PySem.W.kitOne K (.ref C) (.ref c4) = some (decide (j = 4))
  kv : PySem.W.kitOne K (.ref C) (.type "ValueError") = some true
/-- the tuple that is told -/
def toldV (j : Nat) (v : V) : List V := match j with
  | 0 => [.str "error", .str "InvalidRoad", v]
  | 1 => [.str "error", .str "InvalidCars", v]
  | 2 => [.str "error", .str "UnknownSection", v]
  | 3 => [.str "error", .str "UnknownCar", v]
  | _ => [.str "error", .str "InvalidNumber"]
/-- the error's field -/
def fldV (j : Nat) (d : Option Addr) (H : Hp) (v : V) : Prop := j = 4 ∨ ∃ dd fs, d = some dd ∧ H dd = some (.xd fs) ∧ fs.lookup (if j = 3 then ("name" : Str) else "index") = some v
theorem fldV.same {j : Nat} {d : Option Addr} {H H' : Hp} {v : V} (h : fldV j d H v) (e : Same H H') : fldV j d H' v := by
  rcases h with h | ⟨dd, fs, h1, h2, h3⟩
  · exact .inl h
  · exact .inr ⟨dd, fs, h1, e _ _ h2, h3⟩
def toldR (K : PySem.W.Frag) (CE c0 c1 c2 c3 c4 : Addr) (cls : Value) (d : Option Addr) (H : Hp) (Q : VK) : Prop :=
  ∃ (C : Addr) (j : Nat) (v : V), cls = .ref C ∧ ErrJ K CE c0 c1 c2 c3 c4 C j ∧ j < 5 ∧ DictK H d ∧ fldV j d H v ∧ ∀ H' p, Same H H' → H' p = some (.tup (toldV j v)) → Q (.ref p) H'
def TTel (K : PySem.W.Frag) (CE c0 c1 c2 c3 c4 : Addr) : (XK → Hp → VK → Prop) → Hp → VK → Prop := fun tl H Q => tl (fun cls d H' => toldR K CE c0 c1 c2 c3 c4 cls d H' Q) H Q
def nTold : List Str := ["_law_work", "e", "_law_some", "_law_terms", "_law_k"]
theorem scTold : FnScope nTold ["_law_work"] (defScope sTold) := ⟨rfl, rfl, rfl, by decide +kernel, rfl, by decide +kernel, by decide +kernel⟩
/-- the reading of the suite -/
def tIsV (K : PySem.W.Frag) (C a : Addr) (d : Option Addr) (c : V) : TE := tCB (rIsV K C a d) (tCons (tVar 1) (tCons (tC c) tNil))
def tSuite (K : PySem.W.Frag) (c0 c1 c2 c3 c4 C a : Addr) (d : Option Addr) : TS :=
  tSeq (tAsg (tLst (tCons (tIsV K C a d (.ref c0)) (tCons (tIsV K C a d (.ref c1)) (tCons (tIsV K C a d (.ref c2)) tNil)))) (gName 2))
  (tSeq (tAsg (tOp rCat (tVar 2) (tLst (tCons (tIsV K C a d (.ref c3)) (tCons (tIsV K C a d (.ref c4)) tNil)))) (gName 2))
  (tSeq (tAsg (tLst (tCons (tC (.str "InvalidRoad")) (tCons (tC (.str "InvalidCars")) (tCons (tC (.str "UnknownSection")) (tCons (tC (.str "UnknownCar")) (tCons (tC (.str "InvalidNumber")) (tCons (tC (.str "other")) tNil))))))) (gName 3))
  (tSeq (tAsg (tIf (tAnd (tTest (tOp rEq (tBM K "list" (rCntV K) (tVar 2) (tCons (tC (.bl true)) tNil)) (tC (.int 1)))) (tB (tIsV K C a d (.ty "ValueError")))) (tBM K "list" (rIndex K) (tVar 2) (tCons (tC (.bl true)) tNil)) (tC (.int 5))) (gName 4))
  (tSeq (tIfS (tTest (tOp (rI0 fun i j => .bl (decide (i < j))) (tVar 4) (tC (.int 3)))) (tRet (tTup (tCons (tC (.str "error")) (tCons (tOp (rIxL K) (tVar 3) (tVar 4)) (tCons (tXf a (.ref C) d C "index" (tVar 1)) tNil))))) tNext)
  (tRet (tIf (tTest (tOp rEq (tVar 4) (tC (.int 3)))) (tTup (tCons (tC (.str "error")) (tCons (tOp (rIxL K) (tVar 3) (tVar 4)) (tCons (tXf a (.ref C) d C "name" (tVar 1)) tNil)))) (tTup (tCons (tC (.str "error")) (tCons (tOp (rIxL K) (tVar 3) (tVar 4)) tNil)))))))))
theorem pss_ex {X : Cx} {l : List Stmt} {α : Type} {t : α → TS} {p : α → Prop} (h : ∀ a, p a → PSs X l (t a)) : PSs X l (fun D σ H => ∃ a, p a ∧ t a D σ H) := ⟨fun pins s σ H D I ⟨a, pa, q⟩ => (h a pa).run pins s σ H D I q⟩
theorem told_gives {P : Program} {w : World} {K : PySem.W.Frag} {mg : Str → Option Value} {base : Heap} {A : Around} {stack : List Env} {g : Addr} {cdg : Value} {CE c0 c1 c2 c3 c4 : Addr} (M : Mg mg) (W : ErrTab mg CE c0 c1 c2 c3 c4) :
    GivesV P w K mg base A stack nTold "_law_told" (defScope sTold) g cdg (defBody sTold) "_law_work" (TTel K CE c0 c1 c2 c3 c4) := by
  intro f s H Q Held tl act hH h
  have nd := scTold.nd
  refine ⟨_, pss_one (ps_try_as (X := (cxOf L2.CX0 P w K mg base nTold "_law_told" (defScope sTold) g cdg A stack s H L2.E0).nox) (c := .ref CE) (i := 1)
      (tb := fun W D σ H => ∃ Ech : XK, (∀ cls d σ' H', σ'.length = nTold.length → Ech cls d H' → W cls d σ' H') ∧ σ[0]? = some (some (.ref f)) ∧ Held H ∧ tl Ech H D.rt)
      (ts := fun a cls d D σ H => ∃ q : Addr × Nat, (cls = .ref q.1 ∧ ErrJ K CE c0 c1 c2 c3 c4 q.1 q.2) ∧ tSuite K c0 c1 c2 c3 c4 q.1 a d D σ H)
      rfl rfl nd rfl rfl ⟨rfl, by decide, .inl W.gE⟩ LamX.takes0 (fun W pn xe tk _ => ⟨fun pins s' σ H' D I h' => ?_⟩) (fun a oe cls d pn hz hf => ?_)), ?_⟩
  · obtain ⟨Ech, hW, h1, h2, h3⟩ := h'
    exact (pss_one (ps_ret (act W pn xe Ech _ _ tk hW))).run pins s' σ H' D I ⟨h1, h2, h3⟩
  · refine pss_ex (p := fun q : Addr × Nat => cls = .ref q.1 ∧ ErrJ K CE c0 c1 c2 c3 c4 q.1 q.2) (t := fun q => tSuite K c0 c1 c2 c3 c4 q.1 a d) fun q hq => ?_
    have hz2 : Zc (.ref q.1) d oe := by rw [← hq.1]; exact hz
    have J := hq.2
    exact (pss_cons (ps_set (i := 2) nd rfl (.inl rfl) (pe_lst (pa_cons (pe_callB (call_isV J.e hz2 hf) (by rfl) M.isinstance boot_isinstance (pa_cons (pv 1) (pa_cons (pe_glob (v := .ref c0) (by rfl) W.g0 rfl) pa_nil))) (pa_cons (pe_callB (call_isV J.e hz2 hf) (by rfl) M.isinstance boot_isinstance (pa_cons (pv 1) (pa_cons (pe_glob (v := .ref c1) (by rfl) W.g1 rfl) pa_nil))) (pa_cons (pe_callB (call_isV J.e hz2 hf) (by rfl) M.isinstance boot_isinstance (pa_cons (pv 1) (pa_cons (pe_glob (v := .ref c2) (by rfl) W.g2 rfl) pa_nil))) pa_nil))))) (pss_cons (ps_set (i := 2) nd rfl (.inl rfl) (pe_op op_cat (pv 2) (pe_lst (pa_cons (pe_callB (call_isV J.e hz2 hf) (by rfl) M.isinstance boot_isinstance (pa_cons (pv 1) (pa_cons (pe_glob (v := .ref c3) (by rfl) W.g3 rfl) pa_nil))) (pa_cons (pe_callB (call_isV J.e hz2 hf) (by rfl) M.isinstance boot_isinstance (pa_cons (pv 1) (pa_cons (pe_glob (v := .ref c4) (by rfl) W.g4 rfl) pa_nil))) pa_nil))))) (pss_cons (ps_set (i := 3) nd rfl (.inl rfl) (pe_lst (pa_cons pe_str (pa_cons pe_str (pa_cons pe_str (pa_cons pe_str (pa_cons pe_str (pa_cons pe_str pa_nil)))))))) (pss_cons (ps_set (i := 4) nd rfl (.inl rfl) (pe_ifExp (PW.pt (pw_and (pt_cmpR op_eq (pe_bm PySem.F.plainAttrs_list PySem.F.slot_list_count PySem.F.type_list_count mt_countV (pv 2) (pa_cons pe_bl pa_nil)) pe_int (nomark _)) (pw_and1 (pt_val (pe_callB (call_isV J.e hz2 hf) (by rfl) M.isinstance boot_isinstance (pa_cons (pv 1) (pa_cons (pe_bltn (v := .ty "ValueError") (by rfl) W.gv PyProof.Rows.Boot.«ValueError» rfl) pa_nil))))))) (pe_bm PySem.F.plainAttrs_list PySem.F.slot_list_index PySem.F.type_list_index mt_index (pv 2) (pa_cons pe_bl pa_nil)) pe_int)) (pss_cons (ps_if (pt_cmpR op_lt (pv 4) pe_int (nomark _)) (pss_one (ps_ret (pe_tup (pa_cons pe_str (pa_cons (pe_ix ix_list (pv 3) (pv 4) (fun _ _ => rfl)) (pa_cons (pe_xf J.e.xf J.e.ix hz2 hf (pv 1)) pa_nil)))))) pss_nil) (pss_one (ps_ret (pe_ifExp (pt_cmpR op_eq (pv 4) pe_int (nomark _)) (pe_tup (pa_cons pe_str (pa_cons (pe_ix ix_list (pv 3) (pv 4) (fun _ _ => rfl)) (pa_cons (pe_xf J.e.xf J.e.nm hz2 hf (pv 1)) pa_nil)))) (pe_tup (pa_cons pe_str (pa_cons (pe_ix ix_list (pv 3) (pv 4) (fun _ _ => rfl)) pa_nil)))))))))))
  · refine ⟨fun cls d H' => toldR K CE c0 c1 c2 c3 c4 cls d H' Q, ?_, rfl, hH, h⟩
    rintro cls d σ' H1 hl ⟨C, j, v, rfl, J, hj, hd, hf, hQ⟩
    obtain ⟨x0, x1, x2, x3, x4, rfl⟩ : ∃ x0 x1 x2 x3 x4, σ' = [x0, x1, x2, x3, x4] := by
      match σ', hl with
      | [x0, x1, x2, x3, x4], _ => exact ⟨x0, x1, x2, x3, x4, rfl⟩
    refine ⟨true, J.x, fun _ a ha => ⟨(C, j), ⟨rfl, J⟩, ?_⟩, fun z => nomatch z⟩
    show tSuite K c0 c1 c2 c3 c4 C a d _ _ H1
    have dk : ∀ {H2 : Hp}, Same H1 H2 → DictK H2 d := fun e => hd.ext (ExtN.same e)
    have isv : ∀ {σ : L2.St} {H2 : Hp} {c : V} {cv : Value} {b : Bool} {Q2 : VK}, σ[1]? = some (some (.ref a)) → Same H1 H2 → (∀ u, RelV c u → u = cv) → PySem.W.kitOne K (.ref C) cv = some b → Q2 (.bl b) H2 → tIsV K C a d c σ H2 Q2 :=
      fun hσ e hc hk hq => ⟨_, hσ, _, _, _, rfl, hc, hk, dk e, hq⟩
    unfold tSuite
    match j, hj with
    | 0, _ =>
      refine isv rfl (Same.refl _) (fun u e => e) J.k0 (isv rfl (Same.refl _) (fun u e => e) J.k1 (isv rfl (Same.refl _) (fun u e => e) J.k2 ⟨by show 3 ≤ sizeLine; decide, fun p1 hp1 => ?_⟩))
      have s1 := sameNew hp1 (.lst [.bl true, .bl false, .bl false])
      refine ⟨_, rfl, isv rfl s1 (fun u e => e) J.k3 (isv rfl s1 (fun u e => e) J.k4 ⟨by show 2 ≤ sizeLine; decide, fun p2 hp2 => ?_⟩)⟩
      have s2 := s1.trans (sameNew hp2 (.lst [.bl false, .bl false]))
      refine ⟨p1, p2, [.bl true, .bl false, .bl false], [.bl false, .bl false], rfl, rfl, sameNew hp2 _ _ _ upd_same, upd_same, by show 5 ≤ sizeLine; decide, fun p3 hp3 => ?_⟩
      have s3 := s2.trans (sameNew hp3 (.lst [.bl true, .bl false, .bl false, .bl false, .bl false]))
      have h3 : upd (upd (upd H1 p1 (.lst [.bl true, .bl false, .bl false])) p2 (.lst [.bl false, .bl false])) p3 (.lst [.bl true, .bl false, .bl false, .bl false, .bl false]) p3 = some (.lst [.bl true, .bl false, .bl false, .bl false, .bl false]) := upd_same
      refine ⟨by show 6 ≤ sizeLine; decide, fun p4 hp4 => ?_⟩
      have s4 := s3.trans (sameNew hp4 (.lst [.str "InvalidRoad", .str "InvalidCars", .str "UnknownSection", .str "UnknownCar", .str "InvalidNumber", .str "other"]))
      have h4 := sameNew hp4 (.lst [.str "InvalidRoad", .str "InvalidCars", .str "UnknownSection", .str "UnknownCar", .str "InvalidNumber", .str "other"]) _ _ h3
      refine ⟨_, rfl, .inl ⟨rfl, _, SqL.of h4⟩, p3, [.bl true, .bl false, .bl false, .bl false, .bl false], .bl true, rfl, rfl, SqL.of h4, rfl, rfl, rfl, _, rfl, iteT ?_⟩
      refine isv rfl s4 (fun u e => e) J.kv ⟨true, rfl, iteT ?_⟩
      refine ⟨_, rfl, .inl ⟨rfl, _, SqL.of h4⟩, p3, [.bl true, .bl false, .bl false, .bl false, .bl false], .bl true, 0, .bl true, rfl, rfl, SqL.of h4, rfl, rfl, rfl, rfl, fun m z' hm e => ?_, ?_⟩
      · exact absurd hm (by omega)
      have hix : upd (upd (upd (upd H1 p1 (.lst [.bl true, .bl false, .bl false])) p2 (.lst [.bl false, .bl false])) p3 (.lst [.bl true, .bl false, .bl false, .bl false, .bl false])) p4 (.lst [.str "InvalidRoad", .str "InvalidCars", .str "UnknownSection", .str "UnknownCar", .str "InvalidNumber", .str "other"]) p4 = some (.lst [.str "InvalidRoad", .str "InvalidCars", .str "UnknownSection", .str "UnknownCar", .str "InvalidNumber", .str "other"]) := upd_same
      refine ⟨_, rfl, _, _, rfl, rfl, _, rfl, ?_⟩
      refine iteT ⟨_, rfl, _, rfl, p4, _, ((0 : Nat) : Int), .str "InvalidRoad", rfl, rfl, SqL.of hix, atI_nat rfl, ?_⟩
      rcases hf with hf | ⟨dd, fs, rfl, hdd, hfl⟩
      · exact absurd hf (by decide)
      refine ⟨_, rfl, rfl, rfl, dd, fs, v, rfl, s4 _ _ hdd, hfl, by show 3 ≤ sizeLine; decide, fun p hp => ?_⟩
      exact hQ _ p (s4.trans (sameNew hp _)) upd_same
    | 1, _ =>
      refine isv rfl (Same.refl _) (fun u e => e) J.k0 (isv rfl (Same.refl _) (fun u e => e) J.k1 (isv rfl (Same.refl _) (fun u e => e) J.k2 ⟨by show 3 ≤ sizeLine; decide, fun p1 hp1 => ?_⟩))
      have s1 := sameNew hp1 (.lst [.bl false, .bl true, .bl false])
      refine ⟨_, rfl, isv rfl s1 (fun u e => e) J.k3 (isv rfl s1 (fun u e => e) J.k4 ⟨by show 2 ≤ sizeLine; decide, fun p2 hp2 => ?_⟩)⟩
      have s2 := s1.trans (sameNew hp2 (.lst [.bl false, .bl false]))
      refine ⟨p1, p2, [.bl false, .bl true, .bl false], [.bl false, .bl false], rfl, rfl, sameNew hp2 _ _ _ upd_same, upd_same, by show 5 ≤ sizeLine; decide, fun p3 hp3 => ?_⟩
      have s3 := s2.trans (sameNew hp3 (.lst [.bl false, .bl true, .bl false, .bl false, .bl false]))
      have h3 : upd (upd (upd H1 p1 (.lst [.bl false, .bl true, .bl false])) p2 (.lst [.bl false, .bl false])) p3 (.lst [.bl false, .bl true, .bl false, .bl false, .bl false]) p3 = some (.lst [.bl false, .bl true, .bl false, .bl false, .bl false]) := upd_same
      refine ⟨by show 6 ≤ sizeLine; decide, fun p4 hp4 => ?_⟩
      have s4 := s3.trans (sameNew hp4 (.lst [.str "InvalidRoad", .str "InvalidCars", .str "UnknownSection", .str "UnknownCar", .str "InvalidNumber", .str "other"]))
      have h4 := sameNew hp4 (.lst [.str "InvalidRoad", .str "InvalidCars", .str "UnknownSection", .str "UnknownCar", .str "InvalidNumber", .str "other"]) _ _ h3
      refine ⟨_, rfl, .inl ⟨rfl, _, SqL.of h4⟩, p3, [.bl false, .bl true, .bl false, .bl false, .bl false], .bl true, rfl, rfl, SqL.of h4, rfl, rfl, rfl, _, rfl, iteT ?_⟩
      refine isv rfl s4 (fun u e => e) J.kv ⟨true, rfl, iteT ?_⟩
      refine ⟨_, rfl, .inl ⟨rfl, _, SqL.of h4⟩, p3, [.bl false, .bl true, .bl false, .bl false, .bl false], .bl true, 1, .bl true, rfl, rfl, SqL.of h4, rfl, rfl, rfl, rfl, fun m z' hm e => ?_, ?_⟩
      · match m, hm, e with
        | 0, _, e => cases e; rfl
      have hix : upd (upd (upd (upd H1 p1 (.lst [.bl false, .bl true, .bl false])) p2 (.lst [.bl false, .bl false])) p3 (.lst [.bl false, .bl true, .bl false, .bl false, .bl false])) p4 (.lst [.str "InvalidRoad", .str "InvalidCars", .str "UnknownSection", .str "UnknownCar", .str "InvalidNumber", .str "other"]) p4 = some (.lst [.str "InvalidRoad", .str "InvalidCars", .str "UnknownSection", .str "UnknownCar", .str "InvalidNumber", .str "other"]) := upd_same
      refine ⟨_, rfl, _, _, rfl, rfl, _, rfl, ?_⟩
      refine iteT ⟨_, rfl, _, rfl, p4, _, ((1 : Nat) : Int), .str "InvalidCars", rfl, rfl, SqL.of hix, atI_nat rfl, ?_⟩
      rcases hf with hf | ⟨dd, fs, rfl, hdd, hfl⟩
      · exact absurd hf (by decide)
      refine ⟨_, rfl, rfl, rfl, dd, fs, v, rfl, s4 _ _ hdd, hfl, by show 3 ≤ sizeLine; decide, fun p hp => ?_⟩
      exact hQ _ p (s4.trans (sameNew hp _)) upd_same
    | 2, _ =>
      refine isv rfl (Same.refl _) (fun u e => e) J.k0 (isv rfl (Same.refl _) (fun u e => e) J.k1 (isv rfl (Same.refl _) (fun u e => e) J.k2 ⟨by show 3 ≤ sizeLine; decide, fun p1 hp1 => ?_⟩))
      have s1 := sameNew hp1 (.lst [.bl false, .bl false, .bl true])
      refine ⟨_, rfl, isv rfl s1 (fun u e => e) J.k3 (isv rfl s1 (fun u e => e) J.k4 ⟨by show 2 ≤ sizeLine; decide, fun p2 hp2 => ?_⟩)⟩
      have s2 := s1.trans (sameNew hp2 (.lst [.bl false, .bl false]))
      refine ⟨p1, p2, [.bl false, .bl false, .bl true], [.bl false, .bl false], rfl, rfl, sameNew hp2 _ _ _ upd_same, upd_same, by show 5 ≤ sizeLine; decide, fun p3 hp3 => ?_⟩
      have s3 := s2.trans (sameNew hp3 (.lst [.bl false, .bl false, .bl true, .bl false, .bl false]))
      have h3 : upd (upd (upd H1 p1 (.lst [.bl false, .bl false, .bl true])) p2 (.lst [.bl false, .bl false])) p3 (.lst [.bl false, .bl false, .bl true, .bl false, .bl false]) p3 = some (.lst [.bl false, .bl false, .bl true, .bl false, .bl false]) := upd_same
      refine ⟨by show 6 ≤ sizeLine; decide, fun p4 hp4 => ?_⟩
      have s4 := s3.trans (sameNew hp4 (.lst [.str "InvalidRoad", .str "InvalidCars", .str "UnknownSection", .str "UnknownCar", .str "InvalidNumber", .str "other"]))
      have h4 := sameNew hp4 (.lst [.str "InvalidRoad", .str "InvalidCars", .str "UnknownSection", .str "UnknownCar", .str "InvalidNumber", .str "other"]) _ _ h3
      refine ⟨_, rfl, .inl ⟨rfl, _, SqL.of h4⟩, p3, [.bl false, .bl false, .bl true, .bl false, .bl false], .bl true, rfl, rfl, SqL.of h4, rfl, rfl, rfl, _, rfl, iteT ?_⟩
      refine isv rfl s4 (fun u e => e) J.kv ⟨true, rfl, iteT ?_⟩
      refine ⟨_, rfl, .inl ⟨rfl, _, SqL.of h4⟩, p3, [.bl false, .bl false, .bl true, .bl false, .bl false], .bl true, 2, .bl true, rfl, rfl, SqL.of h4, rfl, rfl, rfl, rfl, fun m z' hm e => ?_, ?_⟩
      · match m, hm, e with
        | 0, _, e => cases e; rfl
        | 1, _, e => cases e; rfl
      have hix : upd (upd (upd (upd H1 p1 (.lst [.bl false, .bl false, .bl true])) p2 (.lst [.bl false, .bl false])) p3 (.lst [.bl false, .bl false, .bl true, .bl false, .bl false])) p4 (.lst [.str "InvalidRoad", .str "InvalidCars", .str "UnknownSection", .str "UnknownCar", .str "InvalidNumber", .str "other"]) p4 = some (.lst [.str "InvalidRoad", .str "InvalidCars", .str "UnknownSection", .str "UnknownCar", .str "InvalidNumber", .str "other"]) := upd_same
      refine ⟨_, rfl, _, _, rfl, rfl, _, rfl, ?_⟩
      refine iteT ⟨_, rfl, _, rfl, p4, _, ((2 : Nat) : Int), .str "UnknownSection", rfl, rfl, SqL.of hix, atI_nat rfl, ?_⟩
      rcases hf with hf | ⟨dd, fs, rfl, hdd, hfl⟩
      · exact absurd hf (by decide)
      refine ⟨_, rfl, rfl, rfl, dd, fs, v, rfl, s4 _ _ hdd, hfl, by show 3 ≤ sizeLine; decide, fun p hp => ?_⟩
      exact hQ _ p (s4.trans (sameNew hp _)) upd_same
    | 3, _ =>
      refine isv rfl (Same.refl _) (fun u e => e) J.k0 (isv rfl (Same.refl _) (fun u e => e) J.k1 (isv rfl (Same.refl _) (fun u e => e) J.k2 ⟨by show 3 ≤ sizeLine; decide, fun p1 hp1 => ?_⟩))
      have s1 := sameNew hp1 (.lst [.bl false, .bl false, .bl false])
      refine ⟨_, rfl, isv rfl s1 (fun u e => e) J.k3 (isv rfl s1 (fun u e => e) J.k4 ⟨by show 2 ≤ sizeLine; decide, fun p2 hp2 => ?_⟩)⟩
      have s2 := s1.trans (sameNew hp2 (.lst [.bl true, .bl false]))
      refine ⟨p1, p2, [.bl false, .bl false, .bl false], [.bl true, .bl false], rfl, rfl, sameNew hp2 _ _ _ upd_same, upd_same, by show 5 ≤ sizeLine; decide, fun p3 hp3 => ?_⟩
      have s3 := s2.trans (sameNew hp3 (.lst [.bl false, .bl false, .bl false, .bl true, .bl false]))
      have h3 : upd (upd (upd H1 p1 (.lst [.bl false, .bl false, .bl false])) p2 (.lst [.bl true, .bl false])) p3 (.lst [.bl false, .bl false, .bl false, .bl true, .bl false]) p3 = some (.lst [.bl false, .bl false, .bl false, .bl true, .bl false]) := upd_same
      refine ⟨by show 6 ≤ sizeLine; decide, fun p4 hp4 => ?_⟩
      have s4 := s3.trans (sameNew hp4 (.lst [.str "InvalidRoad", .str "InvalidCars", .str "UnknownSection", .str "UnknownCar", .str "InvalidNumber", .str "other"]))
      have h4 := sameNew hp4 (.lst [.str "InvalidRoad", .str "InvalidCars", .str "UnknownSection", .str "UnknownCar", .str "InvalidNumber", .str "other"]) _ _ h3
      refine ⟨_, rfl, .inl ⟨rfl, _, SqL.of h4⟩, p3, [.bl false, .bl false, .bl false, .bl true, .bl false], .bl true, rfl, rfl, SqL.of h4, rfl, rfl, rfl, _, rfl, iteT ?_⟩
      refine isv rfl s4 (fun u e => e) J.kv ⟨true, rfl, iteT ?_⟩
      refine ⟨_, rfl, .inl ⟨rfl, _, SqL.of h4⟩, p3, [.bl false, .bl false, .bl false, .bl true, .bl false], .bl true, 3, .bl true, rfl, rfl, SqL.of h4, rfl, rfl, rfl, rfl, fun m z' hm e => ?_, ?_⟩
      · match m, hm, e with
        | 0, _, e => cases e; rfl
        | 1, _, e => cases e; rfl
        | 2, _, e => cases e; rfl
      have hix : upd (upd (upd (upd H1 p1 (.lst [.bl false, .bl false, .bl false])) p2 (.lst [.bl true, .bl false])) p3 (.lst [.bl false, .bl false, .bl false, .bl true, .bl false])) p4 (.lst [.str "InvalidRoad", .str "InvalidCars", .str "UnknownSection", .str "UnknownCar", .str "InvalidNumber", .str "other"]) p4 = some (.lst [.str "InvalidRoad", .str "InvalidCars", .str "UnknownSection", .str "UnknownCar", .str "InvalidNumber", .str "other"]) := upd_same
      refine ⟨_, rfl, _, _, rfl, rfl, _, rfl, ?_⟩
      refine iteF ⟨_, rfl, rfl, _, rfl, iteT ?_⟩
      refine ⟨_, rfl, _, rfl, p4, _, ((3 : Nat) : Int), .str "UnknownCar", rfl, rfl, SqL.of hix, atI_nat rfl, ?_⟩
      rcases hf with hf | ⟨dd, fs, rfl, hdd, hfl⟩
      · exact absurd hf (by decide)
      refine ⟨_, rfl, rfl, rfl, dd, fs, v, rfl, s4 _ _ hdd, hfl, by show 3 ≤ sizeLine; decide, fun p hp => ?_⟩
      exact hQ _ p (s4.trans (sameNew hp _)) upd_same
    | 4, _ =>
      refine isv rfl (Same.refl _) (fun u e => e) J.k0 (isv rfl (Same.refl _) (fun u e => e) J.k1 (isv rfl (Same.refl _) (fun u e => e) J.k2 ⟨by show 3 ≤ sizeLine; decide, fun p1 hp1 => ?_⟩))
      have s1 := sameNew hp1 (.lst [.bl false, .bl false, .bl false])
      refine ⟨_, rfl, isv rfl s1 (fun u e => e) J.k3 (isv rfl s1 (fun u e => e) J.k4 ⟨by show 2 ≤ sizeLine; decide, fun p2 hp2 => ?_⟩)⟩
      have s2 := s1.trans (sameNew hp2 (.lst [.bl false, .bl true]))
      refine ⟨p1, p2, [.bl false, .bl false, .bl false], [.bl false, .bl true], rfl, rfl, sameNew hp2 _ _ _ upd_same, upd_same, by show 5 ≤ sizeLine; decide, fun p3 hp3 => ?_⟩
      have s3 := s2.trans (sameNew hp3 (.lst [.bl false, .bl false, .bl false, .bl false, .bl true]))
      have h3 : upd (upd (upd H1 p1 (.lst [.bl false, .bl false, .bl false])) p2 (.lst [.bl false, .bl true])) p3 (.lst [.bl false, .bl false, .bl false, .bl false, .bl true]) p3 = some (.lst [.bl false, .bl false, .bl false, .bl false, .bl true]) := upd_same
      refine ⟨by show 6 ≤ sizeLine; decide, fun p4 hp4 => ?_⟩
      have s4 := s3.trans (sameNew hp4 (.lst [.str "InvalidRoad", .str "InvalidCars", .str "UnknownSection", .str "UnknownCar", .str "InvalidNumber", .str "other"]))
      have h4 := sameNew hp4 (.lst [.str "InvalidRoad", .str "InvalidCars", .str "UnknownSection", .str "UnknownCar", .str "InvalidNumber", .str "other"]) _ _ h3
      refine ⟨_, rfl, .inl ⟨rfl, _, SqL.of h4⟩, p3, [.bl false, .bl false, .bl false, .bl false, .bl true], .bl true, rfl, rfl, SqL.of h4, rfl, rfl, rfl, _, rfl, iteT ?_⟩
      refine isv rfl s4 (fun u e => e) J.kv ⟨true, rfl, iteT ?_⟩
      refine ⟨_, rfl, .inl ⟨rfl, _, SqL.of h4⟩, p3, [.bl false, .bl false, .bl false, .bl false, .bl true], .bl true, 4, .bl true, rfl, rfl, SqL.of h4, rfl, rfl, rfl, rfl, fun m z' hm e => ?_, ?_⟩
      · match m, hm, e with
        | 0, _, e => cases e; rfl
        | 1, _, e => cases e; rfl
        | 2, _, e => cases e; rfl
        | 3, _, e => cases e; rfl
      have hix : upd (upd (upd (upd H1 p1 (.lst [.bl false, .bl false, .bl false])) p2 (.lst [.bl false, .bl true])) p3 (.lst [.bl false, .bl false, .bl false, .bl false, .bl true])) p4 (.lst [.str "InvalidRoad", .str "InvalidCars", .str "UnknownSection", .str "UnknownCar", .str "InvalidNumber", .str "other"]) p4 = some (.lst [.str "InvalidRoad", .str "InvalidCars", .str "UnknownSection", .str "UnknownCar", .str "InvalidNumber", .str "other"]) := upd_same
      refine ⟨_, rfl, _, _, rfl, rfl, _, rfl, ?_⟩
      refine iteF ⟨_, rfl, rfl, _, rfl, iteF ?_⟩
      refine ⟨_, rfl, _, rfl, p4, _, ((4 : Nat) : Int), .str "InvalidNumber", rfl, rfl, SqL.of hix, atI_nat rfl, by show 2 ≤ sizeLine; decide, fun p hp => ?_⟩
      exact hQ _ p (s4.trans (sameNew hp _)) upd_same
end Sl

set_option Elab.async false
set_option linter.all false
set_option maxRecDepth 100000
set_option maxHeartbeats 1000000
/-! min over values whose order asks the heap: what the walk keeps is known at each comparison. -/
namespace OwnR
open PySem PySem.Spec PyProof.Rows PySem.Calls
section
variable {prog : Program} {w : World} {A : Around} {R : Result → Shared → Prop} {I S : Addr} {fp wr : List Addr} {n : Nat} {P : Nat → Value → Prop} {St : Nat → Heap → Prop}
/-- all but the walk's own objects stand as at h -/
def KeptBut (wr : List Addr) (S : Addr) (h h' : Heap) : Prop := ∀ b o, b ∉ wr → b ≠ S → h.get? b = some o → h'.get? b = some o
theorem KeptBut.trans {h1 h2 h3 : Heap} (a : KeptBut wr S h1 h2) (b : KeptBut wr S h2 h3) : KeptBut wr S h1 h3 := fun x o n1 n2 e => b x o n1 n2 (a x o n1 n2 e)
def CmpK (prog : Program) (w : World) (A : Around) (wr : List Addr) (S : Addr) (h0 : Heap) (P : Nat → Value → Prop) (bt : Nat → Nat → Bool) : Prop :=
  ∀ (i j : Nat) (x y : Value) (s : Shared) (Q E : Value → Shared → Prop), KeptBut wr S h0 s.heap → P i x → P j y → Q (.bool (bt i j)) s → wpAny (model prog w) A (richCompare .Lt x y) Q E s
theorem min_turns {h0 : Heap} (W : Walks prog w A.in1 I fp wr n P St) (bt : Nat → Nat → Bool) (cmp : CmpK prog w A.in1 wr S h0 P bt) (nS : S ∉ fp) :
    ∀ (left j : Nat) (s : Shared) (best : Value) (c : Nat), n - (j + 1) = left → j + 1 ≤ n → KeptBut wr S h0 s.heap → St (j + 1) s.heap → P (argBest bt j) best → s.heap.get? S = some { cls := .type "list", dict := none, data := .seq #[best, best] c, slots := #[] } →
    (∀ v h' tk, P (argBest bt (n - 1)) v → KeptBut wr S s.heap h' → R (.ok (.ret v)) { s with heap := h', toks := tk }) → codeAny (model prog w) A (.builtin "min.loop" ⟨[.ref I, .none, .ref S], []⟩) R s := by
  have nw : S ∉ wr := fun h => nS (W.sub _ h)
  have nm : (toString "min" ++ toString ".loop" : String) = "min.loop" := by decide
  intro left
  induction left with
  | zero =>
    intro j s best c hl hj hk hst hb hS hR
    have hn : j + 1 = n := by omega
    refine codeAny_builtin PySem.F.entry_min_loop ?_
    rw [Around.under_plainId PySem.F.plain_min_loop _]
    show wpAny _ A.in1 (seqItems? (.ref S) >>= _) _ _ s
    refine wpAny_bind (wpAny_seqItems hS rfl ?_)
    show wpAny _ A.in1 (tryCatch (pyNext (.ref I)) _ >>= _) _ _ s
    refine wpAny_bind (wpAny_tryCatch (W.done s _ _ (hn ▸ hst) fun h' tk kp => ?_))
    show wpAny _ A.in1 (updateSeq S (fun _ => #[]) >>= _) _ _ _
    refine wpAny_bind (wpAny_updateSeq (kp S _ nw hS) rfl (wpAny_bind (wpAny_letGo (wpAny_pure ?_))))
    exact hR best _ tk (by rw [← hn]; exact hb) fun b o n1 n2 e => (Heap.get?_update_other _ _ (Ne.symm n2)).trans (kp b o n1 e)
  | succ left ih =>
    intro j s best c hl hj hk hst hb hS hR
    have lt : j + 1 < n := by omega
    refine codeAny_builtin PySem.F.entry_min_loop ?_
    rw [Around.under_plainId PySem.F.plain_min_loop _]
    show wpAny _ A.in1 (seqItems? (.ref S) >>= _) _ _ s
    refine wpAny_bind (wpAny_seqItems hS rfl ?_)
    show wpAny _ A.in1 (tryCatch (pyNext (.ref I)) _ >>= _) _ _ s
    refine wpAny_bind (wpAny_tryCatch (W.item (j + 1) s _ _ lt hst fun v h' tk hv hst' kp => ?_))
    have hS' := kp S _ nw hS
    have step : KeptBut wr S s.heap h' := fun b o n1 _ e => kp b o n1 e
    show wpAny _ A.in1 (tryCatch (holding [v, v] (richCompare .Lt v best >>= _)) _ >>= _) _ _ _
    refine wpAny_bind (wpAny_tryCatch (wpAny_holding (wpAny_bind (cmp (j + 1) (argBest bt j) v best _ _ _ (hk.trans step) hv hb ?_))))
    refine wpAny_bind (wpAny_holding (wpAny_truthy_bool ?_))
    refine wpAny_bind (wpAny_letGo (wpAny_pure ?_))
    by_cases hb2 : bt (j + 1) (argBest bt j) = true
    · have ab : argBest bt (j + 1) = j + 1 := by simp only [argBest, hb2, if_true]
      rw [hb2]
      simp only [if_true]
      refine wpAny_bind (wpAny_updateSeq hS' rfl (wpAny_bind (wpAny_letGo ?_)))
      rw [nm]
      have other : ∀ {b : Addr} {o : Obj} {f}, b ≠ S → h'.get? b = some o → (h'.update S f).get? b = some o := fun nb e => (Heap.get?_update_other _ _ (Ne.symm nb)).trans e
      refine wpAny_pure ⟨plainId_quiet PySem.F.plain_min_loop _, ih (j + 1) _ v _ (by omega) lt (hk.trans (step.trans fun b o _ n2 e => other n2 e)) (W.frame _ _ _ hst' fun b hb o e => other (fun z => nS (z ▸ hb)) e) (by rw [ab]; exact hv) (Heap.get?_update_self _ hS' rfl) fun v' h2 tk2 hv' k2 => ?_⟩
      exact hR v' h2 tk2 hv' (step.trans fun b o n1 n2 e => k2 b o n1 n2 (other n2 e))
    · have hb3 : bt (j + 1) (argBest bt j) = false := by simpa using hb2
      have ab : argBest bt (j + 1) = argBest bt j := by simp only [argBest, hb3, Bool.false_eq_true, if_false]
      rw [hb3]
      simp only [Bool.false_eq_true, if_false]
      refine wpAny_bind (wpAny_letGo ?_)
      rw [nm]
      exact wpAny_pure ⟨plainId_quiet PySem.F.plain_min_loop _, ih (j + 1) _ best c (by omega) lt (hk.trans step) hst' (by rw [ab]; exact hb) hS' fun v' h2 tk2 hv' k2 => hR v' h2 tk2 hv' (step.trans k2)⟩
/-- min(xs) -/
theorem call_minK {A : Around} {E : Value → Shared → Prop} {s : Shared} {x : Value} {Q : Value → Shared → Prop}
    (h : wpAny (model prog w) A.in1 (pyIter x) (fun it s₂ => ∃ I fp wr n P St bt, it = .ref I ∧ Walks prog w A.in1 I fp wr n P St ∧ St 0 s₂.heap ∧ (∀ b ∈ fp, b < s₂.heap.objs.size) ∧ 0 < n ∧ CmpK prog w A.in1 wr s₂.heap.objs.size s₂.heap P bt ∧
      ∀ v h' tk, P (argBest bt (n - 1)) v → (∀ b o, b ∉ wr → s₂.heap.get? b = some o → h'.get? b = some o) → Q v { s₂ with heap := h', toks := tk }) E s) :
    wpAny (model prog w) A (call (.builtin "min") [x]) Q E s := by
  have nm : (toString "min" ++ toString ".loop" : String) = "min.loop" := by decide
  refine call_function_tree PySem.F.kind_min PySem.F.plain_min PySem.F.entry_min (PySem.F.args_min1 _) ?_
  show wpAny _ A.in1 (Builtin.Builtins.bindParams "min" ["key", "default"] 0 ⟨[], []⟩ >>= _) _ _ s
  refine wpAny_bind (wpAny_of_eq (show Builtin.Builtins.bindParams "min" ["key", "default"] 0 ⟨[], []⟩ = pure [none, none] from rfl) ?_)
  refine wpAny_bind (wpAny_pure (wpAny_bind (wpAny_mono h (fun it s₂ h₂ => ?_) fun _ _ e => e)))
  obtain ⟨I, fp, wr, n, P, St, bt, rfl, W, hst, hfp, hn, cmp, hQ⟩ := h₂
  refine wpAny_bind (wpAny_newObj_type ?_)
  have nS : s₂.heap.objs.size ∉ fp := fun hm => Nat.lt_irrefl _ (hfp _ hm)
  have nw : s₂.heap.objs.size ∉ wr := fun h => nS (W.sub _ h)
  rw [nm]
  refine wpAny_pure ⟨plainId_quiet PySem.F.plain_min_loop _, ?_⟩
  refine codeAny_builtin PySem.F.entry_min_loop ?_
  rw [Around.under_plainId PySem.F.plain_min_loop _]
  have kp0 : ∀ {ob : Obj} (b : Addr) (o : Obj), s₂.heap.get? b = some o → (s₂.heap.push ob).get? b = some o := fun b o e => Heap.get?_push_of_some _ e
  show wpAny _ A.in1 (seqItems? (.ref s₂.heap.objs.size) >>= _) _ _ _
  refine wpAny_bind (wpAny_seqItems (Heap.get?_push_size _ rfl) rfl ?_)
  show wpAny _ A.in1 (tryCatch (pyNext (.ref I)) _ >>= _) _ _ _
  refine wpAny_bind (wpAny_tryCatch (W.item 0 _ _ _ hn (W.frame _ _ _ hst fun b _ o e => kp0 b o e) fun v h' tk hv hst' kp => ?_))
  have hS' := kp _ _ nw (Heap.get?_push_size _ rfl)
  show wpAny _ A.in1 (updateSeq s₂.heap.objs.size (fun _ => #[v, v]) >>= _) _ _ _
  refine wpAny_bind (wpAny_updateSeq hS' rfl ?_)
  rw [nm]
  have other : ∀ {b : Addr} {o : Obj} {f}, b ≠ s₂.heap.objs.size → h'.get? b = some o → (h'.update s₂.heap.objs.size f).get? b = some o := fun nb e => (Heap.get?_update_other _ _ (Ne.symm nb)).trans e
  refine wpAny_pure ⟨plainId_quiet PySem.F.plain_min_loop _, min_turns (h0 := s₂.heap) W bt cmp nS _ 0 _ v _ rfl hn (fun b o n1 n2 e => other n2 (kp b o n1 (kp0 b o e))) (W.frame _ _ _ hst' fun b hb o e => other (fun z => nS (z ▸ hb)) e) hv (Heap.get?_update_self _ hS' rfl) fun v' h2 tk2 hv' k2 => ?_⟩
  exact hQ v' h2 tk2 hv' fun b o n1 e => k2 b o n1 (Nat.ne_of_lt (Heap.lt_size e)) (other (Nat.ne_of_lt (Heap.lt_size e)) (kp b o n1 (kp0 b o e)))
end
end OwnR

set_option Elab.async false
set_option linter.all false
set_option maxRecDepth 100000
set_option maxHeartbeats 1000000
/-! the order of lists of numbers, and of (length, list) -/
namespace Sl
open PySem PySem.Spec L2 OwnR LamX PySem.SeqAt
/-- a list of numbers ahead of another -/
def ltN (c d : List Nat) : Bool := firstLt (fun j => decide (c.getD j 0 = d.getD j 0)) (fun j => decide (c.getD j 0 < d.getD j 0)) (decide (c.length < d.length)) (List.range (min c.length d.length))
theorem nat_at {c : List Nat} {vs : List Value} (r : Vals (natV c) vs) {j : Nat} (h : j < vs.length) : ∃ t, vs[j] = .int ((c.getD j 0 : Nat) : Int) t := by
  have hl : (natV c).length = vs.length := r.length
  rw [natV_len] at hl
  have hc : j < c.length := by omega
  obtain ⟨u, hu, rel⟩ := Vals.get (i := j) (x := V.int ((c.getD j 0 : Nat) : Int)) r (by
    unfold natV
    rw [List.getElem?_map, List.getElem?_eq_getElem hc]
    simp [List.getD, List.getElem?_eq_getElem hc])
  have e : vs[j]? = some vs[j] := List.getElem?_eq_getElem h
  rw [e] at hu
  obtain ⟨t, ht⟩ : ∃ t, u = .int ((c.getD j 0 : Nat) : Int) t := rel
  exact ⟨t, (Option.some.inj hu).trans ht⟩
theorem lt_nats {A : Around} {s : Shared} {l b : Addr} {c d : List Nat} {vs us : List Value} (hl : s.heap.IsList l vs.toArray) (hb : s.heap.IsList b us.toArray) (rv : Vals (natV c) vs) (ru : Vals (natV d) us) (hu : A.units + 8 < cLine) : RcLt A s (.ref l) (.ref b) (ltN c d) := by
  have e1 : vs.length = c.length := by have := rv.length; rw [natV_len] at this; omega
  have e2 : us.length = d.length := by have := ru.length; rw [natV_len] at this; omega
  have key := RcLt.lists (A := A) (e := fun j => decide (c.getD j 0 = d.getD j 0)) (r := fun j => decide (c.getD j 0 < d.getD j 0)) hl hb (by omega) (fun j h1 h2 => ?_) (fun j h1 h2 _ => ?_)
  · rw [List.size_toArray, List.size_toArray, e1, e2] at key
    exact key
  · rw [List.size_toArray] at h1 h2
    obtain ⟨t, ht⟩ := nat_at rv h1
    obtain ⟨u, hu2⟩ := nat_at ru h2
    rw [List.getElem_toArray, List.getElem_toArray, ht, hu2]
    have q := eqAt_reads (.int ((c.getD j 0 : Nat) : Int)) (.int ((d.getD j 0 : Nat) : Int)) A.in1 s (.int ((c.getD j 0 : Nat) : Int) t) (.int ((d.getD j 0 : Nat) : Int) u) _ _ (.int _ _) (.int _ _) rfl rfl (by show A.units + 1 + 0 < cLine; omega)
    have e : PyData.eqv (.int ((c.getD j 0 : Nat) : Int)) (.int ((d.getD j 0 : Nat) : Int)) = decide (c.getD j 0 = d.getD j 0) := by
      show decide (((c.getD j 0 : Nat) : Int) = ((d.getD j 0 : Nat) : Int)) = _
      rw [decide_eq_decide]
      omega
    rw [e] at q
    exact q
  · rw [List.size_toArray] at h1 h2
    obtain ⟨t, ht⟩ := nat_at rv h1
    obtain ⟨u, hu2⟩ := nat_at ru h2
    rw [List.getElem_toArray, List.getElem_toArray, ht, hu2]
    intro prog w E Q h
    refine PyProof.Rows.lt_int ?_
    have e : decide (((c.getD j 0 : Nat) : Int) < ((d.getD j 0 : Nat) : Int)) = decide (c.getD j 0 < d.getD j 0) := by
      rw [decide_eq_decide]
      omega
    rw [e]
    exact h
theorem reads_nats {h : Heap} : ∀ {c : List Nat} {vs : List Value}, Vals (natV c) vs → ∃ as, ReadsAll h vs (c.map fun n => .int ((n : Nat) : Int)) as
  | [], vs, r => by
    obtain rfl := Vals.zero r
    exact ⟨_, .nil⟩
  | n :: c, vs, r => by
    cases r with
    | cons r1 r2 =>
      obtain ⟨as, h2⟩ := reads_nats r2
      obtain ⟨t, rfl⟩ : ∃ t, _ = Value.int ((n : Nat) : Int) t := r1
      exact ⟨_, .cons (.int _ _) h2⟩
def natsD (c : List Nat) : PyData := .list (c.map fun n => .int ((n : Nat) : Int))
theorem eqv_nats : ∀ c d : List Nat, PyData.eqvAll (c.map fun n => .int ((n : Nat) : Int)) (d.map fun n => .int ((n : Nat) : Int)) = decide (c = d)
  | [], [] => rfl
  | [], _ :: _ => rfl
  | _ :: _, [] => rfl
  | x :: a, y :: b => by
    show (PyData.eqv (.int ((x : Nat) : Int)) (.int ((y : Nat) : Int)) && PyData.eqvAll (a.map fun n => .int ((n : Nat) : Int)) (b.map fun n => .int ((n : Nat) : Int))) = _
    rw [eqv_nats a b, show PyData.eqv (.int ((x : Nat) : Int)) (.int ((y : Nat) : Int)) = decide (x = y) by show decide (((x : Nat) : Int) = ((y : Nat) : Int)) = _; rw [decide_eq_decide]; omega]
    by_cases h : x = y <;> by_cases g : a = b <;> simp [h, g]
/-- (length, list) ahead of another -/
def ltK (c d : List Nat) : Bool := if c.length = d.length then (if c = d then false else ltN c d) else decide (c.length < d.length)
theorem lt_keys {A : Around} {s : Shared} {t b l m : Addr} {c d : List Nat} {vs us : List Value} {t1 t2 : Tok} (ht : s.heap.IsTuple t #[.int ((c.length : Nat) : Int) t1, .ref l]) (hb : s.heap.IsTuple b #[.int ((d.length : Nat) : Int) t2, .ref m]) (hl : s.heap.IsList l vs.toArray) (hm : s.heap.IsList m us.toArray)
    (rv : Vals (natV c) vs) (ru : Vals (natV d) us) (hu : A.units + 16 < cLine) : RcLt A s (.ref t) (.ref b) (ltK c d) := by
  have u1 : A.in1.units = A.units + 1 := rfl
  have key := RcLt.tuples (A := A) (e := fun j => if j = 0 then decide (c.length = d.length) else decide (c = d)) (r := fun j => if j = 0 then decide (c.length < d.length) else ltN c d) ht hb (by omega) (fun j h1 h2 => ?_) (fun j h1 h2 _ => ?_)
  · have e : firstLt (fun j => if j = 0 then decide (c.length = d.length) else decide (c = d)) (fun j => if j = 0 then decide (c.length < d.length) else ltN c d) false [0, 1] = ltK c d := by
      unfold ltK firstLt firstLt firstLt
      by_cases h : c.length = d.length <;> by_cases g : c = d <;> simp [h, g]
    rw [← e]
    exact key
  · match j, h1, h2 with
    | 0, h1, h2 =>
      have q := eqAt_reads (.int ((c.length : Nat) : Int)) (.int ((d.length : Nat) : Int)) A.in1 s (.int ((c.length : Nat) : Int) t1) (.int ((d.length : Nat) : Int) t2) _ _ (.int _ _) (.int _ _) rfl rfl (by show A.units + 1 + 0 < cLine; omega)
      rw [show PyData.eqv (.int ((c.length : Nat) : Int)) (.int ((d.length : Nat) : Int)) = decide (c.length = d.length) by show decide (((c.length : Nat) : Int) = ((d.length : Nat) : Int)) = _; rw [decide_eq_decide]; omega] at q
      exact q
    | 1, h1, h2 =>
      obtain ⟨o1, g1, k1, n1, x1⟩ := id hl
      obtain ⟨o2, g2, k2, n2, x2⟩ := id hm
      obtain ⟨as, ra⟩ := reads_nats (h := s.heap) rv
      obtain ⟨bs, rb⟩ := reads_nats (h := s.heap) ru
      have can : ∀ c : List Nat, (natsD c).canLay0 = true ∧ (natsD c).depth ≤ 1 := fun c => (shp_list (n := 0) fun e he => by
        obtain ⟨x, _, rfl⟩ := List.mem_map.mp he
        exact shp_int _)
      have q := eqAt_reads (natsD c) (natsD d) A.in1 s (.ref l) (.ref m) _ _ (.list g1 k1 x1 (by simpa using ra)) (.list g2 k2 x2 (by simpa using rb)) (can c).1 (can d).1 (by have h1 := (can c).2; show A.units + 1 + min (natsD c).depth (natsD d).depth < cLine; omega)
      rw [show PyData.eqv (natsD c) (natsD d) = decide (c = d) from eqv_nats c d] at q
      exact q
  · match j, h1, h2 with
    | 0, h1, h2 =>
      intro prog w E Q h
      refine PyProof.Rows.lt_int ?_
      rw [show decide (((c.length : Nat) : Int) < ((d.length : Nat) : Int)) = decide (c.length < d.length) by rw [decide_eq_decide]; omega]
      exact h
    | 1, h1, h2 => exact lt_nats hl hm rv ru (by omega)
end Sl

set_option Elab.async false
set_option linter.all false
set_option maxRecDepth 100000
set_option maxHeartbeats 1000000
namespace Sl
open PySem PySem.Spec PyProof.Rows L2 OwnR LamX PySem.SeqAt
/-- min of tuples (length, list) -/
def rMinT (K : PySem.W.Frag) : List V → Hp → VK → Prop := fun xs H Q => ∃ (p : Addr) (ts : List Addr) (cs : List (List Nat)), xs = [.ref p] ∧ SqL K H p (ts.map V.ref) ∧ ts.length = cs.length ∧ 0 < cs.length ∧ (∀ (i : Nat) (t : Addr) (c : List Nat), ts[i]? = some t → cs[i]? = some c → ∃ l, H t = some (.tup [.int ((c.length : Nat) : Int), .ref l]) ∧ H l = some (.lst (natV c))) ∧
  ∀ t, ts[argBest (fun i j => ltK (cs.getD i []) (cs.getD j [])) (cs.length - 1)]? = some t → Q (.ref t) H
theorem call_minT {X : Cx} (hc : X.calm = true) (hu : X.A.units + 64 < cLine) : CallR X (.builtin "min") (rMinT X.K) := by
  intro pins s σ H xs us Q I r h
  obtain ⟨p, ts, cs, rfl, hs, hl, h0, he, hQ⟩ := h
  obtain ⟨its, rv, hp, _⟩ := I.list hs
  rw [Vals.ref1 r]
  have hh := I.ok.hd hc
  have hIs := hp.isList
  have nits : its.length = cs.length := by
    have := rv.length
    rw [List.length_map] at this
    omega
  have lt : p < s.heap.objs.size := by
    obtain ⟨o, ho, _⟩ := id hIs
    exact Heap.lt_size ho
  have kpush : ∀ {ob : Obj} (b : Addr) (o : Obj), s.heap.get? b = some o → (s.heap.push ob).get? b = some o := fun b o e => Heap.get?_push_of_some _ e
  have far : ∀ {b : Addr} {o : Obj}, s.heap.get? b = some o → b ∉ [s.heap.objs.size] := fun {b o} e z => Nat.ne_of_lt (Heap.lt_size e) (List.mem_singleton.mp z)
  refine call_minK (wpAny_pyIter_list hIs ?_)
  refine ⟨s.heap.objs.size, _, _, _, _, _, fun i j => ltK (cs.getD i []) (cs.getD j []), rfl, Walks.list (A := X.A.in1) hh _ p (Nat.ne_of_lt lt) its.toArray, ⟨⟨_, Heap.get?_push_size _ rfl, rfl, rfl⟩, hIs.at fun o e => kpush _ _ e⟩, fun b hb => ?_, by rw [List.size_toArray, nits]; exact h0, ?_, fun v h' tk hP hk => ?_⟩
  · have lt1 : b < s.heap.objs.size + 1 := by
      rcases List.mem_cons.mp hb with rfl | hb
      · exact Nat.lt_succ_self _
      · rw [List.mem_singleton.mp hb]
        exact Nat.lt_succ_of_lt lt
    show b < (s.heap.push _).objs.size
    rw [Heap.size_push]
    exact lt1
  · intro i j x y s' Q' E' hk' hx hy hq
    -- what stands at a place of the list
    have at_ : ∀ {i : Nat} {x : Value}, its.toArray[i]? = some x → ∃ (t : Addr) (c : List Nat) (l : Addr) (t1 : Tok) (vs : List Value), x = .ref t ∧ cs.getD i [] = c ∧ s'.heap.IsTuple t #[.int ((c.length : Nat) : Int) t1, .ref l] ∧ s'.heap.IsList l vs.toArray ∧ Vals (natV c) vs := fun {i x} hx => by
      have hx : its[i]? = some x := by simpa using hx
      have hi : i < its.length := (List.getElem?_eq_some_iff.mp hx).1
      obtain ⟨t, ht⟩ : ∃ t, ts[i]? = some t := ⟨_, List.getElem?_eq_getElem (by omega)⟩
      obtain ⟨c, hcc⟩ : ∃ c, cs[i]? = some c := ⟨_, List.getElem?_eq_getElem (by omega)⟩
      obtain ⟨u, hu1, ru⟩ := Vals.get (i := i) (x := V.ref t) rv (by rw [List.getElem?_map, ht]; rfl)
      rw [hx] at hu1
      obtain rfl : x = u := Option.some.inj hu1
      obtain rfl : x = Value.ref t := ru
      obtain ⟨l, h1, h2⟩ := he i t c ht hcc
      obtain ⟨_, tv, rt, oT, hoT, hcl, n, hdT⟩ := (show ObjOk X.prog X.w H s.heap t (.tup [.int ((c.length : Nat) : Int), .ref l]) from I.hok t _ h1)
      obtain ⟨_, lv, nl, rl, hoL⟩ := (show ObjOk X.prog X.w H s.heap l (.lst (natV c)) from I.hok l _ h2)
      have old : ∀ {b : Addr} {o : Obj}, s.heap.get? b = some o → s'.heap.get? b = some o := fun {b o} e => hk' b o (far e) (Nat.ne_of_lt (by show b < (s.heap.push _).objs.size; rw [Heap.size_push]; exact Nat.lt_succ_of_lt (Heap.lt_size e))) (kpush b o e)
      obtain ⟨u1, u2, rfl, r1, r2⟩ := Vals.two rt
      obtain ⟨t1, rfl⟩ : ∃ t1, u1 = Value.int ((c.length : Nat) : Int) t1 := r1
      obtain rfl : u2 = Value.ref l := r2
      exact ⟨t, c, l, t1, lv, rfl, by simp [List.getD, hcc], ⟨oT, old hoT, hcl, n, hdT⟩, ⟨_, old hoL, rfl, nl, rfl⟩, rl⟩
    obtain ⟨t, c, l, t1, vs, rfl, e1, a1, a2, a3⟩ := at_ hx
    obtain ⟨b, d, m, t2, us, rfl, e2, b1, b2, b3⟩ := at_ hy
    have hq : Q' (.bool (ltK (cs.getD i []) (cs.getD j []))) s' := hq
    rw [e1, e2] at hq
    exact lt_keys a1 b1 a2 b2 a3 b3 (by show X.A.units + 1 + 16 < cLine; omega) X.prog X.w E' Q' hq
  · have hP : its.toArray[argBest (fun i j => ltK (cs.getD i []) (cs.getD j [])) (its.toArray.size - 1)]? = some v := hP
    rw [List.size_toArray, nits] at hP
    have hP : its[argBest (fun i j => ltK (cs.getD i []) (cs.getD j [])) (cs.length - 1)]? = some v := by simpa using hP
    generalize argBest (fun i j => ltK (cs.getD i []) (cs.getD j [])) (cs.length - 1) = q at hP hQ
    obtain ⟨t, ht⟩ : ∃ t, ts[q]? = some t := ⟨_, List.getElem?_eq_getElem (by have := (List.getElem?_eq_some_iff.mp hP).1; omega)⟩
    obtain ⟨u, hu1, ru⟩ := Vals.get (i := q) (x := V.ref t) rv (by rw [List.getElem?_map, ht]; rfl)
    rw [hP] at hu1
    obtain rfl : v = u := Option.some.inj hu1
    exact ⟨.ref t, H, I.kept (t' := tk) fun b o e => hk b o (far e) (kpush b o e), ru, hQ t ht⟩
end Sl

set_option Elab.async false
set_option linter.all false
set_option maxRecDepth 100000
namespace Sl
open PySem PySem.Spec L2 OwnR LamX
/-! ### all choices: by levels, and by doubling -/
theorem chs_up {nar : List Nat} : ∀ k, ∀ c ∈ chs nar k, c.Pairwise (· < ·)
  | 0 => fun c hc => by
    rw [List.mem_singleton.mp hc]
    exact .nil
  | k + 1 => fun c hc => by
    obtain ⟨d, hd, h⟩ := List.mem_flatMap.mp hc
    obtain ⟨s, hs, rfl⟩ := List.mem_map.mp h
    have up := chs_up k d hd
    have hp := (List.mem_filter.mp hs).2
    rw [List.pairwise_append]
    refine ⟨up, List.pairwise_singleton _ _, fun x hx y hy => ?_⟩
    rw [List.mem_singleton.mp hy]
    rcases List.eq_nil_or_concat d with rfl | ⟨ini, la, rfl⟩
    · cases hx
    · rw [List.concat_eq_append] at hp hx up
      have hp : la < s := by
        rcases Bool.or_eq_true_iff.mp hp with h | h
        · simp at h
        · have := of_decide_eq_true h
          rwa [lastD_snoc] at this
      rcases List.mem_append.mp hx with hx | hx
      · have := (List.pairwise_append.mp up).2.2 x hx la (List.mem_singleton.mpr rfl)
        omega
      · rw [List.mem_singleton.mp hx]
        exact hp
theorem chs_mem {nar : List Nat} : ∀ (k : Nat) (c : List Nat), c.length = k → c.Pairwise (· < ·) → (∀ x ∈ c, x ∈ nar) → c ∈ chs nar k
  | 0, c, h, _, _ => by
    rw [List.length_eq_zero_iff.mp h]
    exact List.mem_singleton.mpr rfl
  | k + 1, c, h, up, hin => by
    rcases List.eq_nil_or_concat c with rfl | ⟨ini, la, rfl⟩
    · simp at h
    · rw [List.concat_eq_append] at h up hin ⊢
      rw [List.length_append, List.length_singleton] at h
      have u := List.pairwise_append.mp up
      have hi := chs_mem k ini (by omega) u.1 fun x hx => hin x (List.mem_append_left _ hx)
      refine List.mem_flatMap.mpr ⟨ini, hi, List.mem_map.mpr ⟨la, List.mem_filter.mpr ⟨hin la (List.mem_append_right _ (List.mem_singleton.mpr rfl)), ?_⟩, rfl⟩⟩
      rcases List.eq_nil_or_concat ini with rfl | ⟨i2, l2, rfl⟩
      · rfl
      · rw [List.concat_eq_append] at u ⊢
        have : l2 < la := u.2.2 l2 (List.mem_append_right _ (List.mem_singleton.mpr rfl)) la (List.mem_singleton.mpr rfl)
        rw [lastD_snoc, decide_eq_true this, Bool.or_true]
/-- all sublists, by doubling -/
def subsD (nar : List Nat) : List (List Nat) := nar.foldl (fun S x => S ++ S.map fun c => c ++ [x]) [[]]
theorem subsD_snoc (nar : List Nat) (x : Nat) : subsD (nar ++ [x]) = subsD nar ++ (subsD nar).map fun c => c ++ [x] := by
  unfold subsD
  rw [List.foldl_append]
  rfl
theorem subsD_len : ∀ (nar : List Nat), (subsD nar).length = 2 ^ nar.length := by
  have key : ∀ (l : List Nat) (S : List (List Nat)), (l.foldl (fun S x => S ++ S.map fun c => c ++ [x]) S).length = S.length * 2 ^ l.length := by
    intro l
    induction l with
    | nil => intro S; simp
    | cons x r ih =>
      intro S
      rw [List.foldl_cons, ih, List.length_append, List.length_map, List.length_cons, Nat.pow_succ, Nat.mul_comm (2 ^ r.length) 2, ← Nat.mul_assoc, Nat.mul_two]
  intro nar
  unfold subsD
  rw [key]
  simp
theorem subsD_in : ∀ (m : Nat) (nar : List Nat), nar.length = m → nar.Pairwise (· < ·) → ∀ c, c ∈ subsD nar ↔ c.Pairwise (· < ·) ∧ ∀ x ∈ c, x ∈ nar
  | 0, nar, h, _, c => by
    rw [List.length_eq_zero_iff.mp h]
    constructor
    · intro hc
      rw [List.mem_singleton.mp hc]
      exact ⟨.nil, fun x hx => nomatch hx⟩
    · rintro ⟨_, hc⟩
      cases c with
      | nil => exact List.mem_singleton.mpr rfl
      | cons x r => exact absurd (hc x List.mem_cons_self) (by simp)
  | m + 1, nar, h, up, c => by
    rcases List.eq_nil_or_concat nar with rfl | ⟨ini, la, rfl⟩
    · simp at h
    rw [List.concat_eq_append] at h up ⊢
    rw [List.length_append, List.length_singleton] at h
    have u := List.pairwise_append.mp up
    have ih := subsD_in m ini (by omega) u.1
    rw [subsD_snoc]
    constructor
    · intro hc
      rcases List.mem_append.mp hc with hc | hc
      · have := (ih c).mp hc
        exact ⟨this.1, fun x hx => List.mem_append_left _ (this.2 x hx)⟩
      · obtain ⟨d, hd, rfl⟩ := List.mem_map.mp hc
        have := (ih d).mp hd
        refine ⟨List.pairwise_append.mpr ⟨this.1, List.pairwise_singleton _ _, fun x hx y hy => ?_⟩, fun x hx => ?_⟩
        · rw [List.mem_singleton.mp hy]
          exact u.2.2 x (this.2 x hx) la (List.mem_singleton.mpr rfl)
        · rcases List.mem_append.mp hx with hx | hx
          · exact List.mem_append_left _ (this.2 x hx)
          · exact List.mem_append_right _ hx
    · rintro ⟨cu, hc⟩
      by_cases hl : la ∈ c
      · -- la is the last of c
        obtain ⟨p, q, rfl⟩ := List.append_of_mem hl
        have cu2 := List.pairwise_append.mp cu
        have hq : q = [] := by
          cases q with
          | nil => rfl
          | cons y r =>
            have hy := (List.pairwise_cons.mp cu2.2.1).1 y List.mem_cons_self
            rcases List.mem_append.mp (hc y (List.mem_append_right _ (List.mem_cons_of_mem _ List.mem_cons_self))) with z | z
            · have := u.2.2 y z la (List.mem_singleton.mpr rfl)
              omega
            · rw [List.mem_singleton.mp z] at hy
              omega
        subst hq
        refine List.mem_append_right _ (List.mem_map.mpr ⟨p, (ih p).mpr ⟨cu2.1, fun x hx => ?_⟩, rfl⟩)
        rcases List.mem_append.mp (hc x (List.mem_append_left _ hx)) with z | z
        · exact z
        · have := cu2.2.2 x hx la List.mem_cons_self
          rw [List.mem_singleton.mp z] at this
          omega
      · refine List.mem_append_left _ ((ih c).mpr ⟨cu, fun x hx => ?_⟩)
        rcases List.mem_append.mp (hc x hx) with z | z
        · exact z
        · rw [List.mem_singleton.mp z] at hx
          exact absurd hx hl
/-- a stands ahead of b in the order of lists (of one length) -/
def LexN (a b : List Nat) : Prop := ∃ p x y r s, a = p ++ x :: r ∧ b = p ++ y :: s ∧ x < y
theorem LexN.more {a b : List Nat} (h : LexN a b) (s t : List Nat) : LexN (a ++ s) (b ++ t) := by
  obtain ⟨p, x, y, r, q, rfl, rfl, l⟩ := h
  exact ⟨p, x, y, r ++ s, q ++ t, by simp, by simp, l⟩
theorem ext_lex {nar c : List Nat} (up : nar.Pairwise (· < ·)) : (extN nar c).Pairwise LexN := by
  unfold extN
  rw [List.pairwise_map]
  exact (up.filter _).imp fun {s t} h => ⟨c, s, t, [], [], rfl, rfl, h⟩
theorem chs_lex {nar : List Nat} (up : nar.Pairwise (· < ·)) : ∀ k, (chs nar k).Pairwise LexN
  | 0 => List.pairwise_singleton _ _
  | k + 1 => by
    have ih := chs_lex up k
    show ((chs nar k).flatMap (extN nar)).Pairwise LexN
    have key : ∀ l : List (List Nat), l.Pairwise LexN → (l.flatMap (extN nar)).Pairwise LexN := by
      intro l
      induction l with
      | nil => intro _; exact .nil
      | cons c r ihl =>
        intro h
        have h' := List.pairwise_cons.mp h
        rw [List.flatMap_cons, List.pairwise_append]
        refine ⟨ext_lex up, ihl h'.2, fun x hx y hy => ?_⟩
        obtain ⟨s, _, rfl⟩ := List.mem_map.mp hx
        obtain ⟨d, hd, hy⟩ := List.mem_flatMap.mp hy
        obtain ⟨t, _, rfl⟩ := List.mem_map.mp hy
        exact (h'.1 d hd).more _ _
    exact key _ ih
/-- the program's choice is the first of all by (length, list) -/
theorem few_least {secs : List Sec} {cars : List Car} {m : Int} {c : List Nat} (h : FewW secs cars m c) : (c ∈ subsD (narL secs secs.length) ∧ loser (widen secs c) cars m = none) ∧ ∀ d ∈ subsD (narL secs secs.length), loser (widen secs d) cars m = none → d = c ∨ c.length < d.length ∨ (c.length = d.length ∧ LexN c d) := by
  have up := narL_up secs secs.length
  obtain ⟨k, pre, post, e, g, n1, n2⟩ := h
  generalize narL secs secs.length = nar at *
  have hc : c ∈ chs nar k := by rw [e]; exact List.mem_append_right _ List.mem_cons_self
  have ci := chs_in nar k c hc
  refine ⟨⟨(subsD_in _ nar rfl up c).mpr ⟨chs_up k c hc, ci.1⟩, g⟩, fun d hd gd => ?_⟩
  have dm := (subsD_in _ nar rfl up d).mp hd
  have dc := chs_mem d.length d rfl dm.1 dm.2
  rcases Nat.lt_trichotomy d.length k with lt | eq | lt
  · exact absurd gd (n2 _ lt d dc)
  · rw [eq, e] at dc
    have lx := chs_lex up k
    rw [e] at lx
    have lx2 := List.pairwise_cons.mp (List.pairwise_append.mp lx).2.1
    rcases List.mem_append.mp dc with z | z
    · exact absurd gd (n1 d z)
    · rcases List.mem_cons.mp z with z | z
      · exact .inl z
      · exact .inr (.inr ⟨by rw [ci.2, eq], lx2.1 d z⟩)
  · exact .inr (.inl (by rw [ci.2]; exact lt))
end Sl

set_option Elab.async false
set_option linter.all false
set_option maxRecDepth 100000
namespace Sl
open PySem PySem.Spec L2 OwnR LamX PySem.SeqAt
theorem firstLt_from {e r : Nat → Bool} {fin : Bool} {k : Nat} (he : e k = false) : ∀ (m a : Nat), a ≤ k → k < a + m → (∀ j, a ≤ j → j < k → e j = true) → firstLt e r fin (List.range' a m) = r k
  | 0, a, h1, h2, _ => absurd h2 (by omega)
  | m + 1, a, h1, h2, h3 => by
    rw [List.range'_succ]
    by_cases q : a = k
    · subst q
      exact firstLt_no he
    · rw [firstLt_yes (h3 a (Nat.le_refl _) (by omega))]
      exact firstLt_from he m (a + 1) (by omega) (by omega) fun j h4 h5 => h3 j (by omega) h5
theorem lex_lt {c d : List Nat} (h : LexN c d) : ltN c d = true ∧ ltN d c = false ∧ c ≠ d := by
  obtain ⟨p, x, y, r, s, rfl, rfl, lt⟩ := h
  have g1 : (p ++ x :: r).getD p.length 0 = x := by simp [List.getD]
  have g2 : (p ++ y :: s).getD p.length 0 = y := by simp [List.getD]
  have ge : ∀ j, j < p.length → (p ++ x :: r).getD j 0 = (p ++ y :: s).getD j 0 := fun j hj => by
    simp only [List.getD, List.getElem?_append_left hj]
  refine ⟨?_, ?_, fun z => ?_⟩
  · unfold ltN
    rw [List.range_eq_range', firstLt_from (k := p.length) (by simp only [g1, g2]; exact decide_eq_false (by omega)) _ 0 (Nat.zero_le _) (by simp) fun j _ hj => decide_eq_true (ge j hj)]
    simp only [g1, g2]
    exact decide_eq_true lt
  · unfold ltN
    rw [List.range_eq_range', firstLt_from (k := p.length) (by simp only [g1, g2]; exact decide_eq_false (by omega)) _ 0 (Nat.zero_le _) (by simp) fun j _ hj => decide_eq_true (ge j hj).symm]
    simp only [g1, g2]
    exact decide_eq_false (by omega)
  · have := congrArg (fun l => l.getD p.length 0) z
    simp only [g1, g2] at this
    omega
theorem best_is {cs : List (List Nat)} {c0 : List Nat} (h1 : ∀ d ∈ cs, ltK d c0 = false) (h2 : ∀ d ∈ cs, d ≠ c0 → ltK c0 d = true) (h3 : c0 ∈ cs) : cs[argBest (fun i j => ltK (cs.getD i []) (cs.getD j [])) (cs.length - 1)]? = some c0 := by
  obtain ⟨q, hq⟩ := List.mem_iff_getElem?.mp h3
  have ql := (List.getElem?_eq_some_iff.mp hq).1
  have gd : ∀ {i : Nat} {d : List Nat}, cs[i]? = some d → cs.getD i [] = d := fun h => by simp [List.getD, h]
  have key : ∀ k, k < cs.length → (argBest (fun i j => ltK (cs.getD i []) (cs.getD j [])) k ≤ k) ∧ (q ≤ k → cs[argBest (fun i j => ltK (cs.getD i []) (cs.getD j [])) k]? = some c0) := by
    intro k
    induction k with
    | zero =>
      intro _
      refine ⟨Nat.le_refl _, fun h => ?_⟩
      have : q = 0 := by omega
      subst this
      exact hq
    | succ k ih =>
      intro hk
      obtain ⟨i1, i2⟩ := ih (by omega)
      obtain ⟨d, hd⟩ : ∃ d, cs[k + 1]? = some d := ⟨_, List.getElem?_eq_getElem hk⟩
      obtain ⟨b, hb⟩ : ∃ b, cs[argBest (fun i j => ltK (cs.getD i []) (cs.getD j [])) k]? = some b := ⟨_, List.getElem?_eq_getElem (by omega)⟩
      have step : argBest (fun i j => ltK (cs.getD i []) (cs.getD j [])) (k + 1) = if ltK d b = true then k + 1 else argBest (fun i j => ltK (cs.getD i []) (cs.getD j [])) k := by
        show (if ltK (cs.getD (k + 1) []) (cs.getD (argBest (fun i j => ltK (cs.getD i []) (cs.getD j [])) k) []) = true then _ else _) = _
        rw [gd hd, gd hb]
      rw [step]
      refine ⟨by split <;> omega, fun h => ?_⟩
      by_cases e : q ≤ k
      · have hb0 := i2 e
        rw [hb] at hb0
        obtain rfl := Option.some.inj hb0
        rw [if_neg (by rw [h1 d (List.mem_of_getElem? hd)]; decide)]
        exact hb
      · have : q = k + 1 := by omega
        subst this
        rw [hd] at hq
        obtain rfl := Option.some.inj hq
        by_cases eb : b = d
        · subst eb
          split
          · exact hd
          · exact hb
        · rw [if_pos (h2 b (List.mem_of_getElem? hb) eb)]
          exact hd
  exact (key _ (by omega)).2 (by omega)
/-- the first of the good choices is the program's -/
theorem few_best {secs : List Sec} {cars : List Car} {m : Int} {c : List Nat} (h : FewW secs cars m c) : ((subsD (narL secs secs.length)).filter fun d => decide (loser (widen secs d) cars m = none))[argBest (fun i j => ltK (((subsD (narL secs secs.length)).filter fun d => decide (loser (widen secs d) cars m = none)).getD i []) (((subsD (narL secs secs.length)).filter fun d => decide (loser (widen secs d) cars m = none)).getD j [])) (((subsD (narL secs secs.length)).filter fun d => decide (loser (widen secs d) cars m = none)).length - 1)]? = some c := by
  obtain ⟨⟨a1, a2⟩, a3⟩ := few_least h
  have all : ∀ d ∈ (subsD (narL secs secs.length)).filter fun d => decide (loser (widen secs d) cars m = none), d = c ∨ c.length < d.length ∨ (c.length = d.length ∧ LexN c d) := fun d hd => by
    obtain ⟨b1, b2⟩ := List.mem_filter.mp hd
    exact a3 d b1 (of_decide_eq_true b2)
  refine best_is (fun d hd => ?_) (fun d hd ne => ?_) (List.mem_filter.mpr ⟨a1, decide_eq_true a2⟩)
  · unfold ltK
    rcases all d hd with rfl | lt | ⟨eq, lx⟩
    · simp
    · rw [if_neg (by omega)]
      exact decide_eq_false (by omega)
    · obtain ⟨l1, l2, l3⟩ := lex_lt lx
      rw [if_pos eq.symm, if_neg (fun z => l3 z.symm)]
      exact l2
  · unfold ltK
    rcases all d hd with rfl | lt | ⟨eq, lx⟩
    · exact absurd rfl ne
    · rw [if_neg (by omega)]
      exact decide_eq_true lt
    · obtain ⟨l1, l2, l3⟩ := lex_lt lx
      rw [if_pos eq, if_neg l3]
      exact l1
end Sl

set_option Elab.async false
set_option linter.all false
set_option maxRecDepth 100000
set_option maxHeartbeats 2000000
/-! Lambdas that stand as values, called away from where they were made. -/
namespace OwnR
open PySem PySem.Spec PyProof.Rows L2 LamX
/-- what the lambdas of X's def may look up, as it stands at s1 -/
structure Mkr (X : Cx) (σ : L2.St) (HZ : Hp) (s1 : Shared) : Prop where
  ok : X.Ok
  len : σ.length = X.N.length
  cell : ∀ y c, X.env.cells.lookup y = some c → ∃ v, s1.heap.IsCell c v
  freeC : ∀ y c, X.env.cells.lookup y = some c → HZ c = none
  loc : ∀ (i : Nat) (y : Str) (v : V), X.N[i]? = some y → σ[i]? = some (some v) → (X.env.scope.names.lookup y = some .cell ∨ X.env.scope.names.lookup y = some .free) → ∃ u c, RelV v u ∧ X.env.cells.lookup y = some c ∧ s1.heap.IsCell c (some u)
section
variable {X : Cx} {pins : List (Addr × Obj)} {σ : L2.St} {H HZ : Hp} {s s1 : Shared}
theorem cell_un {fs ch : List Addr} {c : Addr} {v : Option Value} (un : Un fs ch H HZ s.heap s1.heap) (hn : H c = none) (hc : c ∉ ch) (h : s.heap.IsCell c v) : s1.heap.IsCell c v :=
  let ⟨o, ho, hd⟩ := h
  let ⟨sl, q⟩ := un.any ho hn hc
  ⟨{ o with slots := sl }, q, hd⟩
theorem Mkr.of (I : Inv X pins σ H s) : Mkr X σ H s where
  ok := I.ok
  len := I.len
  cell := I.cell
  freeC := I.freeC
  loc := fun i y v e1 e2 e3 => by
    obtain ⟨m, hn, hl⟩ := I.loc
    obtain ⟨u, r, q⟩ := hl i y v e1 e2 (e3.elim (fun z => .inr (.inl z)) fun z => .inr (.inr z))
    rcases q with ⟨k, _⟩ | ⟨_, c, e, z⟩
    · have k : X.env.scope.names.lookup y = some .local := k
      rcases e3 with k2 | k2
      · rw [k2] at k; cases k
      · rw [k2] at k; cases k
    · exact ⟨u, c, r, e, z⟩
theorem Mkr.un {fs ch : List Addr} (M : Mkr X σ H s) (un : Un fs ch H HZ s.heap s1.heap) (hch : ∀ b ∈ ch, ∀ y c, X.env.cells.lookup y = some c → c ≠ b) : Mkr X σ HZ s1 := by
  have no : ∀ {y c}, X.env.cells.lookup y = some c → c ∉ ch := fun e z => hch _ z _ _ e rfl
  refine ⟨M.ok, M.len, fun y c e => ?_, fun y c e => ?_, fun i y v e1 e2 e3 => ?_⟩
  · obtain ⟨v, z⟩ := M.cell y c e
    exact ⟨v, cell_un un (M.freeC y c e) (no e) z⟩
  · obtain ⟨v, o, ho, _⟩ := M.cell y c e
    exact un.free c o ho (M.freeC y c e) (no e)
  · obtain ⟨u, c, r, e, z⟩ := M.loc i y v e1 e2 e3
    exact ⟨u, c, r, e, cell_un un (M.freeC y c e) (no e) z⟩
/-- the lambda's context, entered at s1 from the frames outer -/
theorem lam_startM {A : Around} {outer : List Env} {E : XK} {T : LamT} {f c' : Addr} {h₁ : Heap} {tk : Nat} {bs : List (Str × Value)} (M : Mkr X σ HZ s1) (L : LamS2 X.N X.env.scope T) (e0 : Env0 X.prog X.w X.K X.mg X.base A outer s1 HZ) (hd : A.handled = none)
    (ns : h₁.Ns s1.heap.objs.size fun y => bs.reverse.lookup y) (kp : ∀ b o, s1.heap.get? b = some o → h₁.get? b = some o) :
    Inv (lamCx X A outer s1 HZ E T.scope f c') [] σ HZ { s1 with heap := h₁, toks := tk } := by
  have hasC := L.has M.ok
  have up : ∀ {y c}, (lcl X T).lookup y = some c → X.env.cells.lookup y = some c := fun {y c} e => by
    rcases cloFrom_mem (PySem.mem_of_lookup e) with m | ⟨g1, g2⟩
    · exact absurd m (by simp)
    · obtain ⟨d, hcd⟩ := hasC _ g1 rfl
      have hcd : X.env.cells.lookup y = some d := hcd
      rw [hcd] at g2
      rw [hcd, g2]
      rfl
  have down : ∀ {y}, T.scope.names.lookup y = some .free → ∃ c, (lcl X T).lookup y = some c := fun {y} hl => mem_lookup (cloFrom_has (cells := X.env.cells) (acc := []) (show (y, NameKind.free) ∈ T.scope.names from PySem.mem_of_lookup hl))
  have stays : ∀ {c : Addr} {v : Option Value}, s1.heap.IsCell c v → h₁.IsCell c v := fun ⟨o, ho, hdt⟩ => ⟨o, kp _ _ ho, hdt⟩
  have no : ∀ b : Addr, ¬ b ∈ (lamCx X A outer s1 HZ E T.scope f c').ex := fun b z => nomatch (show b ∈ ([] : List Addr) from z)
  exact
    { ok :=
        { mod := e0.mod, kind := L.kind, glob := rfl, blt := rfl, above := Nat.le_refl _
          inj := fun y z c e1 e2 => M.ok.inj y z c (up e1) (up e2)
          has := fun y hy => by
            rcases (show T.scope.names.lookup y = some .cell ∨ T.scope.names.lookup y = some .free from hy) with q | q
            · exact absurd rfl (L.cell _ (PySem.mem_of_lookup q))
            · exact down q
          cab := fun y c z => nomatch (show false = true from z)
          hd := fun _ => hd, frames := Around.frames_deeper e0.frames, stk := .inr ⟨rfl, rfl⟩
          exf := fun b z => absurd z (no b), bs := e0.bs, bsz := e0.bsz, noex := fun b _ _ => no b, exfs := fun b z => absurd z (no b), funs := e0.funs, frf := e0.frf }
      os := rfl, bare := e0.bare, base := Un.kept kp
      loc := ⟨_, ns, fun i y v e1 e2 e3 => by
        rcases (show Vis T.scope y from e3) with k | k | k
        · exact absurd (List.mem_of_getElem? (show X.N[i]? = some y from e1)) (L.loc _ (PySem.mem_of_lookup k) rfl)
        · exact absurd rfl (L.cell _ (PySem.mem_of_lookup k))
        · have vis := L.free _ (PySem.mem_of_lookup k) rfl
          obtain ⟨u, c, r, e', z⟩ := M.loc i y v e1 e2 vis
          obtain ⟨c2, h2⟩ := down k
          have e'' := e'.symm.trans (up h2)
          cases e''
          exact ⟨u, r, .inr ⟨.inr k, c, h2, stays z⟩⟩⟩
      cell := fun y c e => let ⟨w', z⟩ := M.cell y c (up e); ⟨w', stays z⟩
      free := e0.hok.fresh (Nat.le_refl _)
      freeC := fun y c e => M.freeC y c (up e)
      pin := fun q hq => nomatch (show q ∈ ([] : List (Addr × Obj)) from hq)
      hok := e0.hok.kept kp, len := M.len }
/-- f() at s1 -/
theorem lam_runM {A : Around} {outer : List Env} {E : XK} {T : LamT} {f : Addr} {k : Nat} {t : XK → TE} {Q : VK} (M : Mkr X σ HZ s1) (L : LamS2 X.N X.env.scope T) (B : LamB T) (e0 : Env0 X.prog X.w X.K X.mg X.base A outer s1 HZ) (hr : Room (k + 1) A)
    (hb : LamPE X T k t) (hv : LamV (lq X) (lcl X T) HZ f T) (h : t E σ HZ Q) :
    codeAny (model X.prog X.w) A (.call (.ref f) ⟨[], []⟩) (L2.CR (L2.CX X.prog X.w) outer X.prog X.w HZ s1 Q E) s1 := by
  obtain ⟨c', dV, hf, hc, hD⟩ := hv
  obtain ⟨⟨doc, pm, ctv, of⟩, _, _⟩ := e0.hok f _ hf
  obtain ⟨⟨oc, vs, tq, hoc, hdc, hvc⟩, _, _⟩ := e0.hok c' _ hc
  have lim : s1.heap.NoLimit := e0.mod.nolimit.keeps fun b o e => (e0.bs b o e).1
  refine PySem.W.kla_callFunE hr.depth of rfl L.co L.gen rfl ⟨c', oc, vs, tq, rfl, hoc, hdc, hvc⟩ ?_
  have go : ∀ (bs : List (Str × Value)), (∀ y ∈ bs, T.scope.names.lookup y.1 = some .local) →
      wpAny (model X.prog X.w) A.in1 (newFunctionEnv T.scope mainGlobals (lcl X T) bs (lq X ++ ".<locals>.") (some f) (.ref c') none builtinsNs)
        (fun env s₂ => s₂.heap.NoLimit ∧ codeAny (model X.prog X.w) A (.expr T.body env) (L2.CR (L2.CX X.prog X.w) outer X.prog X.w HZ s1 Q E) s₂) (fun e s' => L2.CR (L2.CX X.prog X.w) outer X.prog X.w HZ s1 Q E (.error e) s') s1 := fun bs hbs => by
    refine wpAny_newFunctionEnv L.cell hbs (fun h₁ hns hsb => ⟨lim.fresh _ hsb, ?_⟩) L.kind
    show codeAny _ _ (.expr T.body (lamEnv X T.scope s1.heap.objs.size f c')) _ _
    have kp : ∀ b o, s1.heap.get? b = some o → h₁.get? b = some o := fun b o e => hsb.extBut b o (Nat.ne_of_lt (Heap.lt_size e)) (Heap.get?_push_of_some _ e)
    have J := lam_startM (E := E) (f := f) (c' := c') (tk := s1.toks + bs.length) M L e0 hr.hd hns kp
    exact PySem.W.kla_codeExpr (wpAny_mono ((hb A outer s1 HZ E f c' (hr.deeper _)).run [] _ _ HZ Q J h) (fun v s' hq => let ⟨w', H', J', rv, q⟩ := hq; ⟨w', H', J'.os, J'.bare, J'.base, J'.hok, rv, q⟩) fun e s' hq => hq)
  unfold LamB at B
  rcases hD with ⟨ho, rfl⟩ | ⟨a, ta, ho, rfl, hta⟩
  · rw [ho] at B
    rw [B]
    exact wpAny_pure (go [] fun y hy => nomatch hy)
  · rw [ho] at B
    obtain ⟨k', b1, b2⟩ := B (lq X) (lcl X T) ta doc pm (.ref c') ctv
    obtain ⟨_, its, ri, oT, hoT, hcl, n, hdT⟩ := (show ObjOk X.prog X.w HZ s1.heap ta (.tup [.int 0]) from e0.hok ta _ hta)
    cases ri with
    | @cons _ v _ _ rv rn =>
      cases rn
      refine BindsTo.of_defaults (fd := PySem.W.kdv_fn "<lambda>" (lq X) T.par (.expr T.body) T.scope (lcl X T) (.ref ta) doc pm (.ref c') ctv) (binds := [(a, v)]) rfl hoT hdT b1 (b2 v) _ _ _ _ ?_
      refine go [(a, v)] fun y hy => ?_
      rw [List.mem_singleton.mp hy]
      exact L.par a ho
/-- within a block of X's def its lambdas may be called -/
theorem blk_mkr {scope : Scope} {ce : Env} {fp : List Addr} (I : Inv X pins σ H s) (hfp : ∀ b ∈ fp, FpOk X pins H b) {pins' : List (Addr × Obj)} {σ' : L2.St} {H' : Hp} {s' : Shared} (J : Inv (X.blk s H scope ce fp) pins' σ' H' s') : Mkr X σ H' s' :=
  (Mkr.of I).un J.base fun b hb y c e => (hfp b hb).2.2.2.2.1 y c e
/-- x(), x a lambda of X's def -/
def tCallM (X : Cx) (σ : L2.St) (k j : Nat) : TE := fun σ' H Q => ∃ (f : Addr) (T : LamT) (t : XK → TE), σ'[j]? = some (some (.ref f)) ∧ LamS2 X.N X.env.scope T ∧ LamB T ∧ LamPE X T k t ∧ LamV (lq X) (lcl X T) H f T ∧ t E0 σ H Q
theorem pe_callM {scope : Scope} {ce : Env} {fp : List Addr} {x : Str} {j k : Nat} {p1 p2 : Pos} (I : Inv X pins σ H s) (hfp : ∀ b ∈ fp, FpOk X pins H b) (hN : X.N[j]? = some x) (hv : Vis ce.scope x) (hr : Room (k + 1) X.A)
    (hd : (x == ("__debug__" : Str)) = false := by decide) (hcd : (x == ("__classdict__" : Str)) = false := by decide) : PE (X.blk s H scope ce fp) (.Call (.Name x p1) [] [] p2) (tCallM X σ k j) := by
  refine ⟨fun pinsZ sZ σZ HZ Q IZ hh => ?_⟩
  obtain ⟨f, T, t, hs, L, B, hb, hvZ, ht⟩ := hh
  refine wpAny_Call_Name_kw (thn ((pe_var (X := X.blk s H scope ce fp) (pos := p1) (i := j) hN hv hd hcd).run pinsZ sZ σZ HZ (fun v H1 => v = .ref f ∧ H1 = HZ) IZ ⟨.ref f, hs, rfl, rfl⟩) fun u s2 ⟨v, H2, I2, r2, ev, eH⟩ => ?_)
  subst ev eH
  obtain rfl : u = Value.ref f := r2
  obtain ⟨c', dV', hf, _⟩ := id hvZ
  obtain ⟨⟨doc', pm', ctv', of⟩, _, _⟩ := I2.hok f _ hf
  refine PySem.W.callWith_F0 ⟨_, _, _, _, of⟩ ?_
  have rc := lam_runM (E := E0) (Q := Q) (blk_mkr I hfp I2) L B I2.env0 hr hb hvZ ht
  refine wpAny_call (codeAny_mono rc fun r s' hq => ?_)
  cases r with
  | error e => exact passL (X := X.blk s H scope ce fp) pinsZ σZ H2 s2 e s' I2 hq
  | ok fl =>
    cases fl with
    | ret u => exact I2.after hq
    | next => exact False.elim hq
    | brk => exact False.elim hq
    | cont => exact False.elim hq
/-! ### a list of what a maker's lambdas give -/
/-- the block's frame, begun at s -/
abbrev blkEnv (X : Cx) (s : Shared) (scope : Scope) : Env := compEnvC scope (cellsFrom (s.heap.objs.size + 1) scope.names (cloFrom X.env.cells scope.names [])) s.heap.objs.size X.env
theorem blk_walk {elt tg iter : Expr} {scope : Scope} {own : List (Str × Nat)} {pos : Pos} {g : TG} {te : TE} {J : It} {fp : List Addr} {it D : Addr} {tn : Nat → Heap → Prop} {W : Nat → Nat → Hp → Prop} {m0 : Nat} {Q : VK} {Qf : Value → Shared → Prop}
    (I : Inv X pins σ H s) (hc : X.calm = true) (hN : X.N.Nodup) (ok : BlkOk X.N X.env.scope scope own) (hf : ∀ b ∈ fp, FpOk X pins H b ∧ b < s.heap.objs.size) (T : Turn X.prog X.w X.K tg J fp it tn) (st : tn 0 s.heap) (w0 : W 0 m0 H)
    (turn : ∀ (i m : Nat) (H : Hp), W i m H → J.stop i H ∧ Q (V.ref D) H ∨ J.go i H ∧ ∃ Nx : Hp → Prop, (∀ H', Nx H' → ∃ m', m' < m ∧ W (i + 1) m' H') ∧ ∀ (x : V) (H' : Hp), J.yld i H x H' →
      g x (wipe σ (own.map (·.2))) H' fun σ2 H2 => wipe σ2 (own.map (·.2)) = wipe σ (own.map (·.2)) ∧ te σ2 H2 fun y H4 => ∃ acc, H4 D = some (HO.lst acc) ∧ acc.length < sizeLine ∧ Nx (upd H4 D (HO.lst (acc ++ [y]))))
    (hg : PG (X.blk s H scope (blkEnv X s scope) fp) tg g) (he : PE (X.blk s H scope (blkEnv X s scope) fp) elt te)
    (fin : ∀ (s' : Shared) (m : Str → Option Value) (H' : Hp), Inv X pins σ H' s' → Q (.ref D) H' → s'.heap.Ns s.heap.objs.size m → FpOk X pins H' s.heap.objs.size → compPost (model X.prog X.w) X.A X.xe none Qf (.ref D) s.heap.objs.size (.ok .next) s') :
    codeAny (model X.prog X.w) X.A (.compStart (.ListComp elt [⟨tg, iter, [], 0⟩] scope pos) 0 (.ref it) (.ref D) (blkEnv X s scope)) (compPost (model X.prog X.w) X.A X.xe none Qf (.ref D) s.heap.objs.size) { s with heap := pushCells (s.heap.push { cls := .type "dict", data := .dict #[] }) scope.names } := by
  have first : Inv (X.blk s H scope (blkEnv X s scope) fp) [] (wipe σ (own.map (·.2))) H { s with heap := pushCells (s.heap.push { cls := .type "dict", data := .dict #[] }) scope.names } := block_start I ok hN hf
  have st1 : tn 0 (pushCells (s.heap.push { cls := .type "dict", data := .dict #[] }) scope.names) := T.keep _ _ _ st fun b _ o e => pushCells_keeps _ _ _ _ (Heap.get?_push_of_some _ e)
  have eL : (blkEnv X s scope).locals = s.heap.objs.size := rfl
  generalize hvs : own.map (·.2) = vs at *
  generalize blkEnv X s scope = ce at *
  -- what the iterator's objects are in the block
  have own_fp : ∀ {σ' : L2.St} {H' : Hp} {s' : Shared}, Inv (X.blk s H scope ce fp) [] σ' H' s' → (∀ b ∈ fp, H' b = none) → ∀ b ∈ fp, FpOk (X.blk s H scope ce fp) [] H' b := fun I' n b hb =>
    ⟨n b hb, (I'.ok.exf b hb).1, I'.ok.exfs b hb, .inl hb, (I'.ok.exf b hb).2, fun p hp => nomatch (show p ∈ ([] : List (Addr × Obj)) from hp)⟩
  have loop : codeAny (model X.prog X.w) X.A (.compLoop (.ListComp elt [⟨tg, iter, [], 0⟩] scope pos) 0 (.ref it) (.ref D) ce) (compPost (model X.prog X.w) X.A X.xe none Qf (.ref D) s.heap.objs.size) { s with heap := pushCells (s.heap.push { cls := .type "dict", data := .dict #[] }) scope.names } := by
    refine compLoop_any (fun n s' => ∃ i H', Inv (X.blk s H scope ce fp) [] (wipe σ vs) H' s' ∧ tn i s'.heap ∧ (∀ b ∈ fp, H' b = none) ∧ W i n H') ?_ m0 ⟨0, H, first, st1, fun b hb => (hf b hb).1.1, w0⟩
    rintro n sX ⟨i, HX, IX, stX, nX, wX⟩
    rcases turn i n HX wX with ⟨stop, hQ⟩ | ⟨go, Nx, less, step⟩
    · refine thnF (T.done (X.blk s H scope ce fp) rfl rfl rfl hc i [] sX _ HX (fun _ _ => False) IX (own_fp IX nX) stX stop) fun r sY ⟨hr, IY⟩ => ?_
      subst hr
      have back : Inv X pins σ HX sY := I.call' (ch := fp) IY.os IY.base IY.hok IY.bare fun b hb => ⟨(hf b hb).1.2.2.2.1, (hf b hb).1.2.1, (hf b hb).1.2.2.2.2.1, (hf b hb).1.2.2.2.2.2⟩
      have nL : HX s.heap.objs.size = none := eL ▸ IY.free
      obtain ⟨m, hn, _⟩ := IY.loc
      exact fin sY m HX back hQ (eL ▸ hn) (I.fpOk (Nat.le_refl _) nL)
    · refine thnF (T.item (X.blk s H scope ce fp) rfl rfl rfl hc i [] sX _ HX (fun _ _ => False) IX (own_fp IX nX) stX go) fun r sY ⟨u, hr, hY⟩ => ?_
      subst hr
      refine thnF hY fun _ sZ ⟨x, HZ, IZ, rZ, yZ, stZ, nZ⟩ => ?_
      have IP := IZ.pinned (own_fp IZ nZ) (T.obj _ _ stZ)
      refine thnF (hg.run _ sZ _ HZ x u _ IP rZ (step x HZ yZ)) fun _ sU ⟨σU, HU, IU, wU, qU⟩ => ?_
      have len : (wipe σ vs).length = σU.length := by rw [← wU, wipe_length]
      refine thnF ((pts_nil (X := X.blk s H scope ce fp)).run _ sU σU HU (fun b HV => b = true ∧ HV = HU) IU ⟨rfl, rfl⟩) fun b sV ⟨HV, IV, eb, eV⟩ => ?_
      subst eb eV
      simp only [if_true]
      refine thnF (he.run _ sV σU HV _ IV qU) fun z sT ⟨y, HT, IT, rT, acc, hT, zT, nx⟩ => ?_
      refine app_ok (X := X.blk s H scope ce fp) IT hT zT rT fun sE IE => ?_
      obtain ⟨m', lt, w'⟩ := less _ nx
      have pinned : ∀ b ∈ fp, ∀ o, sZ.heap.get? b = some o → sE.heap.get? b = some o ∧ upd HT D (.lst (acc ++ [y])) b = none := fun b hb o e =>
        have z := IE.pin (b, o) (List.mem_append_right _ (List.mem_append_right _ (mem_pinsAt hb e)))
        ⟨z.1, z.2.1⟩
      refine ⟨m', lt, i + 1, _, (IE.unpinned (pins := [])).weak len fun j v e => ?_, T.keep _ _ _ stZ fun b hb o e => (pinned b hb o e).1, fun b hb => ?_, w'⟩
      · rw [← wU] at e
        exact (wipe_some e).1
      · obtain ⟨o, e, _⟩ := T.obj _ _ stZ b hb
        exact (pinned b hb o e).2
  exact codeAny_compStart_list loop (T.self X.A 0 _ _ _ st1 loop)
theorem pe_lcM {elt tg iter : Expr} {scope : Scope} {own : List (Str × Nat)} {pos : Pos} {wi : TI} {g : TG} {te : L2.St → TE} (hc : X.calm = true) (hN : X.N.Nodup) (hi : PI X tg iter wi) (ok : BlkOk X.N X.env.scope scope own)
    (hg : ∀ (s : Shared) (H : Hp) (C : Addr) (cl : List (Str × Addr)) (fp : List Addr), PG (X.blk s H scope (compEnvC scope cl C X.env) fp) tg g)
    (he : ∀ (pins : List (Addr × Obj)) (σ : L2.St) (s : Shared) (H : Hp) (C : Addr) (cl : List (Str × Addr)) (fp : List Addr), Inv X pins σ H s → (∀ b ∈ fp, FpOk X pins H b) → PE (X.blk s H scope (compEnvC scope cl C X.env) fp) elt (te σ)) (hs : ∀ x, foldedSetIterable iter X.env x = pure x := by intro _; rfl) :
    PE X (.ListComp elt [⟨tg, iter, [], 0⟩] scope pos) (fun σ => tLc wi g tYes (te σ) (own.map (·.2)) σ) := by
  refine ⟨fun pins s σ H Q I h => ?_⟩
  rw [eval_ListComp]
  have fr : ∀ y ∈ scope.names, y.2 = .free → ∃ c, X.env.cells.lookup y.1 = some c := fun y hy e => I.ok.has _ (ok.free y hy e)
  refine wpAny_comprehension_free (use := none) rfl hs (closure_ok fr) ok.kind (fun y hy e => by rw [ok.uniq y hy, e]) (thn (hi.run pins s σ H _ I h) fun xv sA hx => thn hx fun itv sB hB => ?_)
  obtain ⟨it, fp, tn, J, HB, rfl, IB, T, stB, fpB, q⟩ := hB
  refine wpAny_newObj_type (newEnv_comp ?_) (by show 0 ≤ sizeLine; decide)
  obtain ⟨W, ⟨m0, w0⟩, turn⟩ := q _ (IB.hok.fresh (Nat.le_refl _))
  have kpB : ∀ {ob : Obj} (b : Addr) (o : Obj), sB.heap.get? b = some o → (sB.heap.push ob).get? b = some o := fun b o e => Heap.get?_push_of_some _ e
  have IC := IB.laid (a := sB.heap.objs.size) (o := .lst []) (t' := sB.toks) (h' := sB.heap.push { cls := .type "list", data := .seq ([] : List Value).toArray }) (fun b o e => kpB b o e) (Nat.le_refl _) ⟨Nat.zero_le _, [], 0, .nil, Heap.get?_push_size _ rfl⟩
  have fC : ∀ b ∈ fp, FpOk X pins (upd HB sB.heap.objs.size (.lst [])) b ∧ b < (sB.heap.push { cls := .type "list", data := .seq ([] : List Value).toArray }).objs.size := fun b hb => by
    obtain ⟨o, e, _⟩ := T.obj _ _ stB b hb
    have lt := Heap.lt_size e
    exact ⟨⟨by rw [upd_ne (Nat.ne_of_lt lt)]; exact (fpB b hb).1, (fpB b hb).2⟩, by rw [Heap.size_push]; exact Nat.lt_succ_of_lt lt⟩
  have stC : tn 0 (sB.heap.push { cls := .type "list", data := .seq ([] : List Value).toArray }) := T.keep _ _ _ stB fun b _ o e => kpB b o e
  have ID := block_start IC ok hN fC
  refine blk_walk (Q := Q) IC hc hN ok fC T stC w0 (fun i m H w => ?_) (hg _ _ _ _ _) (he pins σ _ _ _ _ fp IC fun b hb => (fC b hb).1) fun s' m H' I' q hn f => ⟨m, hn, fun h'' sb => ?_⟩
  · exact turn i m H w
  · obtain ⟨f0, f1, f2, f3, f4, f5⟩ := f
    exact ⟨.ref _, H', I'.turned (t' := s'.toks) (fun b o hb e => (sb.2 b hb).trans e) f0 f1 f3 f4 f5, rfl, q⟩
/-! ### told(x), x a lambda of X's def, within a block of it -/
theorem told_runM {A : Around} {stack : List Env} {x a : Str} {g f : Addr} {Ng : List Str} {bg : List Stmt} {sg : Scope} {cdv : Value} {k : Nat} {T : LamT} {t : XK → TE} {TT : (XK → Hp → VK → Prop) → Hp → VK → Prop} {Q : VK} (M : Mkr X σ H s) (e0 : Env0 X.prog X.w X.K X.mg X.base A stack s H) (kin : X.K.In s.heap) (W : Teller X.K X.mg x a g Ng bg sg cdv)
    (hG : GivesV X.prog X.w X.K X.mg X.base A stack Ng x sg g cdv bg a TT) (hr : Room (k + 2) A) (L : LamS2 X.N X.env.scope T) (B : LamB T) (hb : LamPE X T k t) (hv : LamV (lq X) (lcl X T) H f T) (h : TT (fun E H' Q' => t E σ H' Q') H Q)
    (hd : (a == ("__debug__" : Str)) = false) (hcd : (a == ("__classdict__" : Str)) = false) :
    codeAny (model X.prog X.w) A (.call (.ref g) ⟨[.ref f], []⟩) (L2.CR L2.CX0 stack X.prog X.w H s Q L2.E0) s := by
  obtain ⟨oc, od, pg, dV, kV, doc, pm, ct, an, osl, lk, hbind⟩ := W.lk
  refine run_ofS (N := Ng) (ps := [a]) (us := [.ref f]) (vs := [.ref f]) lk W.cd W.sc hr e0 (hbind s [.ref f] kin rfl) (.cons rfl .nil) rfl fun hr' => ?_
  have act : ∀ (Wx : WX) (pn : List (Addr × Obj)) (xe : Value → Shared → Prop) (E : XK) (p1 p2 : Pos), Takes ((cxOf L2.CX0 X.prog X.w X.K X.mg X.base Ng x sg g cdv A stack s H L2.E0).tr pn xe) Wx → (∀ cls d σ' H', σ'.length = Ng.length → E cls d H' → Wx cls d σ' H') →
      PE ((cxOf L2.CX0 X.prog X.w X.K X.mg X.base Ng x sg g cdv A stack s H L2.E0).tr pn xe) (.Call (.Name a p1) [] [] p2) (fun σZ HZ Q => σZ[0]? = some (some (.ref f)) ∧ LamV (lq X) (lcl X T) HZ f T ∧ t E σ HZ Q) := by
    intro Wx pn xe E p1 p2 tk hW
    refine ⟨fun pinsZ sZ σZ HZ Q IZ hh => ?_⟩
    obtain ⟨hs, hvZ, ht⟩ := hh
    refine wpAny_Call_Name_kw (thn ((pe_var (pos := p1) (i := 0) W.n0 W.vis hd hcd).run pinsZ sZ σZ HZ (fun v H1 => v = .ref f ∧ H1 = HZ) IZ ⟨.ref f, hs, rfl, rfl⟩) fun u s2 ⟨v, H2, I2, r2, ev, eH⟩ => ?_)
    subst ev eH
    obtain rfl : u = Value.ref f := r2
    obtain ⟨c', dV', hf, _⟩ := id hvZ
    obtain ⟨⟨doc', pm', ctv', of⟩, _, _⟩ := I2.hok f _ hf
    refine PySem.W.callWith_F0 ⟨_, _, _, _, of⟩ ?_
    have M2 : Mkr X σ H2 s2 := M.un I2.base fun b hb => nomatch (show b ∈ ([] : List Addr) from hb)
    have rc := lam_runM (E := E) (Q := Q) M2 L B I2.env0 hr' hb hvZ ht
    refine wpAny_call (codeAny_mono rc fun r s' hq => ?_)
    cases r with
    | error e => exact tk e s' (XE.of_call I2 (fun cls d H' h => hW cls d σZ H' I2.len h) hq)
    | ok fl =>
      cases fl with
      | ret u => exact I2.after hq
      | next => exact False.elim hq
      | brk => exact False.elim hq
      | cont => exact False.elim hq
  obtain ⟨t', ht', hq'⟩ := hG f s H Q (fun HZ => LamV (lq X) (lcl X T) HZ f T) (fun E H' Q' => t E σ H' Q') act hv h
  exact ⟨t', ht'.nox, hq'⟩
def tToldM (X : Cx) (σ : L2.St) (k : Nat) (TT : (XK → Hp → VK → Prop) → Hp → VK → Prop) (te : TE) : TE := fun σ' H Q => te σ' H fun y H1 => ∃ (f : Addr) (T : LamT) (t : XK → TE), y = .ref f ∧ LamS2 X.N X.env.scope T ∧ LamB T ∧ LamPE X T k t ∧ LamV (lq X) (lcl X T) H1 f T ∧ TT (fun E H' Q' => t E σ H' Q') H1 Q
theorem pe_toldM {scope : Scope} {ce : Env} {fp : List Addr} {x a : Str} {g : Addr} {Ng : List Str} {bg : List Stmt} {sg : Scope} {cdv : Value} {k : Nat} {TT : (XK → Hp → VK → Prop) → Hp → VK → Prop} {e : Expr} {te : TE} {p pos : Pos} (I : Inv X pins σ H s) (hfp : ∀ b ∈ fp, FpOk X pins H b) (W : Teller X.K X.mg x a g Ng bg sg cdv) (hg : Gl (X.blk s H scope ce fp) x)
    (hG : GivesV X.prog X.w X.K X.mg X.base X.A X.stack Ng x sg g cdv bg a TT) (hr : Room (k + 2) X.A) (he : PE (X.blk s H scope ce fp) e te) (hdb : (x == ("__debug__" : Str)) = false := by decide) (hd : (a == ("__debug__" : Str)) = false := by decide) (hcd : (a == ("__classdict__" : Str)) = false := by decide)
    (h1 : starEach [e] ce = (false, eval e ce) :: starEach [] ce := by rfl) (h2 : (backTo pos (starEach [] ce)).any (·.1) = false := by rfl) :
    PE (X.blk s H scope ce fp) (.Call (.Name x p) [e] [] pos) (tToldM X σ k TT te) := by
  refine ⟨fun pinsY sY σY HY Q IY h => ?_⟩
  have ha : PA (X.blk s H scope ce fp) [e] (tCons te tNil) := pa_cons he pa_nil h1
  refine wpAny_Call_Name_kw (ld_glob IY hg W.mgx ?_ hdb)
  refine PySem.W.callWith_K (h₀ := X.base) IY.ok.mod.kin W.k (thn (ha.run pos pinsY sY σY HY (fun vs H1 => ∃ (f : Addr) (T : LamT) (t : XK → TE), vs = [.ref f] ∧ LamS2 X.N X.env.scope T ∧ LamB T ∧ LamPE X T k t ∧ LamV (lq X) (lcl X T) H1 f T ∧ TT (fun E H' Q' => t E σ H' Q') H1 Q) IY ?_) fun us s1 hs => ?_) h1 h2
  · show te σY HY _
    have key : ∀ (Q1 Q2 : VK), Q1 = Q2 → te σY HY Q1 → te σY HY Q2 := fun _ _ z y => z ▸ y
    refine key _ _ (funext fun y => funext fun H1 => propext ⟨fun ⟨f, T, t, e, r⟩ => ⟨f, T, t, by rw [e], r⟩, fun ⟨f, T, t, e, r⟩ => ⟨f, T, t, by injection e, r⟩⟩) h
  · obtain ⟨vs, H1, I1, r, f, T, t, rfl, L, B, hb, hv, hT⟩ := hs
    obtain ⟨u, rfl, ru⟩ := r.one
    obtain rfl : u = Value.ref f := ru
    refine ⟨I1.kIn, wpAny_call (codeAny_mono (told_runM (X := X) (blk_mkr I hfp I1) I1.env0 I1.kIn W hG hr L B hb hv hT hd hcd) fun r s2 hq => ?_)⟩
    cases r with
    | error e => exact (show False from hq).elim
    | ok fl =>
      cases fl with
      | ret u => exact I1.after hq
      | next => exact False.elim hq
      | brk => exact False.elim hq
      | cont => exact False.elim hq
end
end OwnR

set_option Elab.async false
set_option linter.all false
set_option maxRecDepth 100000
set_option maxHeartbeats 2000000
namespace L2
open PySem PySem.Spec PyProof.Rows
/-- a def that raises nothing, and one that may: either promise -/
theorem FnOk.orX {P : Program} {w : World} {K : PySem.W.Frag} {mg : Str → Option Value} {base : Heap} {CX : CXT} {k : Nat} {f : Addr} {fd : FuncData} {ps : List Str} {sp sp' : Sp} (F : FnOk P w K mg base CX0 k f fd ps sp) (G : FnOk P w K mg base CX k f fd ps sp') :
    FnOk P w K mg base CX k f fd ps (fun vs H Q E => sp vs H Q E ∨ sp' vs H Q E) where
  len := fun vs H Q E h => h.elim (F.len vs H Q E) (G.len vs H Q E)
  run := fun A outer s H args us vs Q E hr e0 hb hv h => by
    rcases h with h | h
    · refine codeAny_mono (F.run A outer s H args us vs Q E hr e0 hb hv h) fun r s' z => ?_
      cases r with
      | ok f => cases f <;> exact z
      | error e => exact z.elim
    · exact G.run A outer s H args us vs Q E hr e0 hb hv h
theorem FnR.orX {P : Program} {w : World} {K : PySem.W.Frag} {mg : Str → Option Value} {base : Heap} {CX : CXT} {k : Nat} {f : Addr} {sp sp' : Sp} (F : FnR P w K mg base CX0 k f sp) (G : FnR P w K mg base CX k f sp') :
    FnR P w K mg base CX k f (fun vs H Q E => sp vs H Q E ∨ sp' vs H Q E) := fun A outer s H us vs Q E hr e0 hv h => by
  rcases h with h | h
  · refine codeAny_mono (F A outer s H us vs Q E hr e0 hv h) fun r s' z => ?_
    cases r with
    | ok f => cases f <;> exact z
    | error e => exact z.elim
  · exact G A outer s H us vs Q E hr e0 hv h
/-- x(e, ..), x a def of the module that promises by position -/
theorem pe_callR {X : Cx} {CX : CXT} {k : Nat} {f : Addr} {sp : Sp} {E : XK} {x : Str} {e : Expr} {es : List Expr} {t : TA} {p pos : Pos} (F : FnR X.prog X.w X.K X.mg X.base CX k f sp) (hr : Room k X.A) (hk : PySem.W.keepIn X.K (.ref f) = true) (hg : Gl X x) (hm : X.mg x = some (.ref f)) (hx : Passes CX X E) (ha : PA X (e :: es) t)
    (hdb : (x == ("__debug__" : Str)) = false := by decide) (he : starEach (e :: es) X.env = (false, eval e X.env) :: starEach es X.env := by rfl) (hpl : (backTo pos (starEach es X.env)).any (·.1) = false := by rfl) :
    PE X (.Call (.Name x p) (e :: es) [] pos) (fun σ H Q => t σ H fun vs H1 => sp vs H1 Q E) := by
  refine ⟨fun pins s σ H Q I h => ?_⟩
  refine wpAny_Call_Name_kw (ld_glob I hg hm ?_ hdb)
  refine PySem.W.callWith_K (h₀ := X.base) I.ok.mod.kin hk (thn (ha.run pos pins s σ H _ I h) fun us s1 ⟨vs, H1, I1, r, q⟩ => ⟨I1.kIn, ?_⟩) he hpl
  exact wpAny_call (run_fnR F hr hx I1 r q)
end L2
namespace Sl
open PySem PySem.Spec L2 OwnR LamX
theorem boot_min : bootBuiltins "min" = some (.builtin "min") := by decide +kernel
theorem KeepB.notlst {r : Addr} {H H' : Hp} {xs : List V} (k : KeepB r H H') (hr : H r = some (.lst xs)) : ∀ b o, H b = some o → (∀ ys, o ≠ .lst ys) → H' b = some o := fun b o e n => k b o e (ne_of e hr (n _))
theorem RowAt.ext {K : PySem.W.Frag} {H H' : Hp} {r sc : Addr} {ns : List Int} (R : RowAt K H r sc ns) (e : ExtN H H') : RowAt K H' r sc ns := by
  refine ⟨let ⟨a, b, c, h⟩ := R.at_; ⟨a, b, c, ExtN.lst e h⟩, fun H2 k => ?_⟩
  have hG : KeepB r H (fun x => match H x with | some (.tbl ps) => some (.tbl ps) | _ => H2 x) := fun b o eb n => by
    show (match H b with | some (.tbl ps) => some (.tbl ps) | _ => H2 b) = some o
    rw [eb]
    cases o <;> first | rfl | exact k _ _ (e _ _ eb (fun _ z => nomatch z)) n
  rcases R.scr _ hG with (h | ⟨o, h⟩) | h
  · have h : (match H sc with | some (.tbl ps) => some (.tbl ps) | _ => H2 sc) = some (.lst (ns.map V.int)) := h
    split at h
    · cases h
    · exact .inl (.inl h)
  · have h : (match H sc with | some (.tbl ps) => some (.tbl ps) | _ => H2 sc) = some (.frz o (.lst (ns.map V.int))) := h
    split at h
    · cases h
    · exact .inl (.inr ⟨o, h⟩)
  · exact .inr h
theorem RunsAt.ext2 {H H' : Hp} {a : Addr} {secs : List Sec} (h : RunsAt H a secs) (e : ExtN H H') : RunsAt H' a secs := by
  obtain ⟨ts, h1, h2, h3⟩ := h
  exact ⟨ts, ExtN.lst e h1, h2, fun i t s e1 e2 => ExtN.tup e (h3 i t s e1 e2)⟩
theorem RunsAt.keep {H H' : Hp} {r a : Addr} {secs : List Sec} {xs : List V} (h : RunsAt H a secs) (k : KeepB r H H') (n : a ≠ r) (hr : H r = some (.lst xs)) : RunsAt H' a secs := by
  obtain ⟨ts, h1, h2, h3⟩ := h
  exact ⟨ts, k _ _ h1 n, h2, fun i t v e1 e2 => k _ _ (h3 i t v e1 e2) (ne_of (h3 i t v e1 e2) hr (by intro z; cases z))⟩
/-! ### what is alike -/
def spL1 (K : PySem.W.Frag) : Sp := fun vs H Q E => spLike0 K vs H Q E ∨ spLikeS (spLike0 K) vs H Q E
def spL2 (K : PySem.W.Frag) : Sp := fun vs H Q E => spL1 K vs H Q E ∨ spLikeS (spL1 K) vs H Q E
theorem like_ints {K : PySem.W.Frag} {a b : Addr} {c : List Nat} {H : Hp} (ha : H a = some (.lst (natV c))) (hb : H b = some (.lst (natV c))) (hl : c.length ≤ 1000) {Q : VK} (k : ∀ H', Same H H' → Q (.bl true) H') : spLikeS (spLike0 K) [.ref a, .ref b] H Q E0 := by
  refine ⟨a, b, "list", natV c, natV c, rfl, .inr ⟨rfl, ha⟩, .inr ⟨rfl, hb⟩, rfl, by rw [natV_len]; exact hl, fun H' k' i x y hx hy Q' hQ => ?_, k⟩
  rw [hx] at hy
  rw [← Option.some.inj hy]
  unfold natV at hx
  rw [List.getElem?_map] at hx
  obtain ⟨n, hn, rfl⟩ := Option.map_eq_some_iff.mp hx
  exact like_int (hQ _ fun _ _ z => z)
theorem harm_in {secs : List Sec} {cars : List Car} {n : Nat} {q : Nat × Str} (h : q ∈ harmL secs cars n) : q.2 ∈ names cars := by
  obtain ⟨k, _, h⟩ := List.mem_flatMap.mp h
  obtain ⟨c, hc, rfl⟩ := List.mem_map.mp h
  exact List.mem_map.mpr ⟨c, List.mem_of_mem_take (List.mem_filter.mp hc).1, rfl⟩
theorem like_harm {K : PySem.W.Frag} {secs : List Sec} {cars : List Car} {H : Hp} {x y : Addr} (h : TupsAt H x ((harmL secs cars secs.length).map harmV)) (h' : TupsAt H y ((harmL secs cars secs.length).map harmV)) (nok : NamesOk cars) (h10 : cars.length ≤ 10) (h12 : secs.length ≤ 12) {Q : VK} (k : ∀ H', Same H H' → Q (.bl true) H') : spL2 K [.ref x, .ref y] H Q E0 := by
  obtain ⟨ts, a1, a2, a3⟩ := h
  obtain ⟨us, b1, b2, b3⟩ := h'
  have hh : (harmL secs cars secs.length).length ≤ 120 := by
    have h1 := harmL_len secs cars secs.length
    have h2 : secs.length * cars.length ≤ 12 * 10 := Nat.mul_le_mul h12 h10
    omega
  rw [List.length_map] at a2 b2
  refine .inr ⟨x, y, "list", ts.map V.ref, us.map V.ref, rfl, .inr ⟨rfl, a1⟩, .inr ⟨rfl, b1⟩, by rw [List.length_map, List.length_map, a2, b2], by rw [List.length_map, b2]; omega, fun H' k' i u v hu hv Q' hQ => ?_, k⟩
  rw [List.getElem?_map] at hu hv
  obtain ⟨d, hd, rfl⟩ := Option.map_eq_some_iff.mp hu
  obtain ⟨e, he, rfl⟩ := Option.map_eq_some_iff.mp hv
  obtain ⟨q, hq⟩ : ∃ q, (harmL secs cars secs.length)[i]? = some q := ⟨_, List.getElem?_eq_getElem (by rw [← a2]; exact (List.getElem?_eq_some_iff.mp hd).1)⟩
  have d1 := k' _ _ (a3 i d (harmV q) hd (by rw [List.getElem?_map, hq]; rfl))
  have e1 := k' _ _ (b3 i e (harmV q) he (by rw [List.getElem?_map, hq]; rfl))
  refine .inr ⟨d, e, "tuple", harmV q, harmV q, rfl, .inl ⟨rfl, d1⟩, .inl ⟨rfl, e1⟩, rfl, by show 2 ≤ 1000; decide, fun H'' k'' m u v hu' hv' Q'' hQ'' => ?_, fun H'' k'' => hQ H'' k''⟩
  rw [hu'] at hv'
  rw [← (Option.some.inj hv' : u = v)]
  match m, hu' with
  | 0, h =>
    rw [← (Option.some.inj h : V.int ((q.1 : Nat) : Int) = u)]
    exact like_int (hQ'' _ fun _ _ z => z)
  | 1, h =>
    rw [← (Option.some.inj h : V.str q.2 = u)]
    exact like_str (nok _ (harm_in (List.mem_of_getElem? hq))) (hQ'' _ fun _ _ z => z)
/-! ### the law's lists of choices -/
/-- a list of lists of numbers, none of them b -/
def SAt (b : Addr) (H : Hp) (q : Addr) (cs : List (List Nat)) : Prop := ∃ ts : List Addr, H q = some (.lst (ts.map V.ref)) ∧ ts.length = cs.length ∧ ∀ (i : Nat) (t : Addr) (c : List Nat), ts[i]? = some t → cs[i]? = some c → t ≠ b ∧ H t = some (.lst (natV c))
theorem SAt.same {b : Addr} {H H' : Hp} {q : Addr} {cs : List (List Nat)} (h : SAt b H q cs) (e : Same H H') : SAt b H' q cs := by
  obtain ⟨ts, h1, h2, h3⟩ := h
  exact ⟨ts, e _ _ h1, h2, fun i t c e1 e2 => ⟨(h3 i t c e1 e2).1, e _ _ (h3 i t c e1 e2).2⟩⟩
theorem SAt.cat {b : Addr} {H : Hp} {a c : Addr} {xs ys : List (List Nat)} (h1 : SAt b H a xs) (h2 : SAt b H c ys) : ∃ us vs, H a = some (.lst us) ∧ H c = some (.lst vs) ∧ us.length = xs.length ∧ vs.length = ys.length ∧ ∀ d, H d = none → SAt b (upd H d (.lst (us ++ vs))) d (xs ++ ys) := by
  obtain ⟨t1, a1, a2, a3⟩ := h1
  obtain ⟨t2, b1, b2, b3⟩ := h2
  refine ⟨t1.map V.ref, t2.map V.ref, a1, b1, by rw [List.length_map, a2], by rw [List.length_map, b2], fun d hd => ⟨t1 ++ t2, by rw [upd_same, List.map_append], by rw [List.length_append, List.length_append, a2, b2], fun i t v e1 e2 => ?_⟩⟩
  have key : t ≠ b ∧ H t = some (.lst (natV v)) := by
    by_cases hi : i < t1.length
    · rw [List.getElem?_append_left hi] at e1
      rw [List.getElem?_append_left (by omega)] at e2
      exact a3 i t v e1 e2
    · rw [List.getElem?_append_right (by omega)] at e1
      rw [List.getElem?_append_right (by omega), ← a2] at e2
      exact b3 _ t v e1 e2
  exact ⟨key.1, by rw [upd_ne (ne_of_none key.2 hd)]; exact key.2⟩
theorem SAt.updb {b : Addr} {H : Hp} {q : Addr} {o : HO} {cs : List (List Nat)} (h : SAt b H q cs) (n : q ≠ b) : SAt b (upd H b o) q cs := by
  obtain ⟨ts, h1, h2, h3⟩ := h
  exact ⟨ts, by rw [upd_ne n]; exact h1, h2, fun i t c e1 e2 => ⟨(h3 i t c e1 e2).1, by rw [upd_ne (h3 i t c e1 e2).1]; exact (h3 i t c e1 e2).2⟩⟩
/-- a list of new lists, as it is being made -/
def LsI (b : Addr) (cs : List (List Nat)) (H : Hp) (D : Addr) (i : Nat) (H1 : Hp) : Prop := Same H H1 ∧ ∃ us : List Addr, H1 D = some (.lst (us.map V.ref)) ∧ us.length = i ∧ ∀ (q : Nat) (t : Addr) (c : List Nat), us[q]? = some t → cs[q]? = some c → t ≠ b ∧ t ≠ D ∧ H1 t = some (.lst (natV c))
theorem LsI.push {b : Addr} {cs : List (List Nat)} {H H1 H2 : Hp} {D x : Addr} {i : Nat} {c : List Nat} {o : HO} (F : LsI b cs H D i H1) (hD : H D = none) (e : Same H1 H2) (hx : H2 x = none) (hb : H b = some o) (hc : cs[i]? = some c) (hi : i < 1000) :
    ∃ acc, upd H2 x (.lst (natV c)) D = some (.lst acc) ∧ acc.length < sizeLine ∧ LsI b cs H D (i + 1) (upd (upd H2 x (.lst (natV c))) D (.lst (acc ++ [.ref x]))) := by
  obtain ⟨s1, us, u1, u2, u3⟩ := F
  have sx := e.trans (sameNew hx (.lst (natV c)))
  have u1' := sx _ _ u1
  have xD : x ≠ D := fun z => by rw [z] at hx; rw [e _ _ u1] at hx; cases hx
  have xb : x ≠ b := fun z => by rw [z] at hx; rw [e _ _ (s1 _ _ hb)] at hx; cases hx
  refine ⟨_, u1', by rw [List.length_map, u2]; exact small1000 (by omega), fun p o e => by rw [upd_ne (ne_of_none e hD)]; exact sx _ _ (s1 _ _ e), us ++ [x], by rw [upd_same, List.map_append]; rfl, by rw [List.length_append, u2]; rfl, fun q t' c' e1 e2 => ?_⟩
  rcases snoc_get e1 with e1 | ⟨hq, rfl⟩
  · obtain ⟨z1, z2, z3⟩ := u3 q t' c' e1 e2
    exact ⟨z1, z2, by rw [upd_ne z2]; exact sx _ _ z3⟩
  · rw [hq, u2, hc] at e2
    cases e2
    exact ⟨xb, xD, by rw [upd_ne xD]; exact upd_same⟩
theorem LsI.sat {b : Addr} {cs : List (List Nat)} {H H1 : Hp} {D : Addr} (F : LsI b cs H D cs.length H1) : SAt b H1 D cs := by
  obtain ⟨s1, us, u1, u2, u3⟩ := F
  exact ⟨us, u1, u2, fun i t c e1 e2 => ⟨(u3 i t c e1 e2).1, (u3 i t c e1 e2).2.2⟩⟩
theorem subsD_le (nar : List Nat) : ∀ c ∈ subsD nar, c.length ≤ nar.length := by
  have key : ∀ (l : List Nat) (S : List (List Nat)) (n : Nat), (∀ c ∈ S, c.length ≤ n) → ∀ c ∈ l.foldl (fun S x => S ++ S.map fun c => c ++ [x]) S, c.length ≤ n + l.length := by
    intro l
    induction l with
    | nil => intro S n h c hc; exact h c hc
    | cons x r ih =>
      intro S n h c hc
      have := ih (S ++ S.map fun c => c ++ [x]) (n + 1) (fun d hd => by
        rcases List.mem_append.mp hd with hd | hd
        · have := h d hd; omega
        · obtain ⟨e, he, rfl⟩ := List.mem_map.mp hd
          have := h e he
          simp
          omega) c hc
      simp
      omega
  intro c hc
  have := key nar [[]] 0 (fun d hd => by rw [List.mem_singleton.mp hd]; exact Nat.le_refl _) c hc
  omega
/-- tuples of a length and a list -/
def BAt (H : Hp) (b : Addr) (cs : List (List Nat)) : Prop := ∃ ts : List Addr, H b = some (.lst (ts.map V.ref)) ∧ ts.length = cs.length ∧ ∀ (i : Nat) (t : Addr) (c : List Nat), ts[i]? = some t → cs[i]? = some c → ∃ l, H t = some (.tup [.int ((c.length : Nat) : Int), .ref l]) ∧ H l = some (.lst (natV c)) ∧ l ≠ b
theorem BAt.ext {H H' : Hp} {b : Addr} {cs : List (List Nat)} (h : BAt H b cs) (e : ExtN H H') : BAt H' b cs := by
  obtain ⟨ts, h1, h2, h3⟩ := h
  exact ⟨ts, ExtN.lst e h1, h2, fun i t c e1 e2 => by
    obtain ⟨l, z1, z2, z3⟩ := h3 i t c e1 e2
    exact ⟨l, ExtN.tup e z1, ExtN.lst e z2, z3⟩⟩
theorem BAt.push {H : Hp} {b t l : Addr} {cs : List (List Nat)} {c : List Nat} (h : BAt H b cs) (ht : H t = none) (hl : H l = some (.lst (natV c))) (n : l ≠ b) : ∃ xs, upd H t (.tup [.int ((c.length : Nat) : Int), .ref l]) b = some (.lst xs) ∧ xs.length = cs.length ∧ BAt (upd (upd H t (.tup [.int ((c.length : Nat) : Int), .ref l])) b (.lst (xs ++ [V.ref t]))) b (cs ++ [c]) := by
  obtain ⟨ts, h1, h2, h3⟩ := h
  have sx := sameNew ht (.tup [V.int ((c.length : Nat) : Int), .ref l])
  have nb : b ≠ t := ne_of_none h1 ht
  refine ⟨_, sx _ _ h1, by rw [List.length_map, h2], ts ++ [t], by rw [upd_same, List.map_append]; rfl, by rw [List.length_append, List.length_append, h2]; rfl, fun i u d e1 e2 => ?_⟩
  rcases snoc_get e1 with e1 | ⟨hq, rfl⟩
  · have lt := (List.getElem?_eq_some_iff.mp e1).1
    rw [List.getElem?_append_left (by omega)] at e2
    obtain ⟨k, z1, z2, z3⟩ := h3 i u d e1 e2
    refine ⟨k, ?_, by rw [upd_ne z3]; exact sx _ _ z2, z3⟩
    rw [upd_ne (ne_of z1 h1 (by intro z; cases z))]
    exact sx _ _ z1
  · rw [List.getElem?_append_right (by omega), hq, h2, Nat.sub_self] at e2
    obtain rfl : c = d := by simpa using e2
    exact ⟨l, by rw [upd_ne nb.symm]; exact upd_same, by rw [upd_ne n]; exact sx _ _ hl, n⟩
theorem loser_none {secs : List Sec} {cars : List Car} {m : Int} : loser secs cars m = none ↔ ∀ c ∈ cars, lossOf secs cars c ≤ m := by
  unfold loser loseL
  rw [List.take_length, List.head?_eq_none_iff, List.map_eq_nil_iff, List.filter_eq_nil_iff]
  constructor
  · intro h c hc
    have := h c hc
    simp at this
    omega
  · intro h c hc
    have := h c hc
    simp
    omega
theorem most_loser {secs : List Sec} {cars : List Car} {m M : Int} (h0 : 0 ≤ m) (hM : M ∈ (0 : Int) :: cars.map (lossOf secs cars)) (hle : ∀ y ∈ (0 : Int) :: cars.map (lossOf secs cars), y ≤ M) : decide (M ≤ m) = decide (loser secs cars m = none) := by
  rw [decide_eq_decide, loser_none]
  constructor
  · intro h c hc
    have := hle _ (List.mem_cons_of_mem _ (List.mem_map.mpr ⟨c, hc, rfl⟩))
    omega
  · intro h
    rcases List.mem_cons.mp hM with rfl | hM
    · exact h0
    · obtain ⟨c, hc, rfl⟩ := List.mem_map.mp hM
      exact h c hc
theorem tups_cat {H : Hp} {a b : Addr} {v1 v2 : List (List V)} (h1 : TupsAt H a v1) (h2 : TupsAt H b v2) : ∃ xs ys, H a = some (.lst xs) ∧ H b = some (.lst ys) ∧ xs.length = v1.length ∧ ys.length = v2.length ∧ ∀ d, H d = none → TupsAt (upd H d (.lst (xs ++ ys))) d (v1 ++ v2) := by
  obtain ⟨t1, a1, a2, a3⟩ := h1
  obtain ⟨t2, b1, b2, b3⟩ := h2
  refine ⟨t1.map V.ref, t2.map V.ref, a1, b1, by rw [List.length_map, a2], by rw [List.length_map, b2], fun d hd => ⟨t1 ++ t2, by rw [upd_same, List.map_append], by rw [List.length_append, List.length_append, a2, b2], fun i t v e1 e2 => ?_⟩⟩
  have key : H t = some (.tup v) := by
    by_cases hi : i < t1.length
    · rw [List.getElem?_append_left hi] at e1
      rw [List.getElem?_append_left (by omega)] at e2
      exact a3 i t v e1 e2
    · rw [List.getElem?_append_right (by omega)] at e1
      rw [List.getElem?_append_right (by omega), ← a2] at e2
      exact b3 _ t v e1 e2
  rw [upd_ne (ne_of_none key hd)]
  exact key
theorem tups_snoc {H : Hp} {a t : Addr} {vss : List (List V)} {v : List V} (h : TupsAt H a vss) (ht : H t = some (.tup v)) : ∃ xs, H a = some (.lst xs) ∧ xs.length = vss.length ∧ TupsAt (upd H a (.lst (xs ++ [.ref t]))) a (vss ++ [v]) := by
  obtain ⟨ts, h1, h2, h3⟩ := h
  refine ⟨_, h1, by rw [List.length_map, h2], ts ++ [t], by rw [upd_same, List.map_append]; rfl, by rw [List.length_append, List.length_append, h2]; rfl, fun i u d e1 e2 => ?_⟩
  rcases snoc_get e1 with e1 | ⟨hq, rfl⟩
  · have lt := (List.getElem?_eq_some_iff.mp e1).1
    rw [List.getElem?_append_left (by omega)] at e2
    have z := h3 i u d e1 e2
    rw [upd_ne (ne_of z h1 (by intro z; cases z))]
    exact z
  · rw [List.getElem?_append_right (by omega), hq, h2, Nat.sub_self] at e2
    obtain rfl : v = d := by simpa using e2
    rw [upd_ne (ne_of ht h1 (by intro z; cases z))]
    exact ht
theorem harmAt_succ {secs : List Sec} {cars : List Car} {k j : Nat} {c : Car} (h : cars[j]? = some c) : harmAt secs cars k (j + 1) = harmAt secs cars k j ++ if harmP secs cars k c = true then [(k, c.name)] else [] := by
  unfold harmAt
  rw [List.take_add_one, h, List.filter_append, List.map_append]
  cases g : harmP secs cars k c <;> simp [g]
end Sl

set_option Elab.async false
set_option linter.all false
set_option maxRecDepth 100000
set_option maxHeartbeats 4000000
namespace Sl
open PySem PySem.Spec L2 OwnR LamX
def qLaw : Str := ("law" : Str) ++ (".<locals>." : Str) ++ ("<lambda>" : Str)
def nLaw : List Str := ["_law_script", "_law_d", "_law_turn", "_law_parts_here", "_law_cars_here", "_law_road", "_law_some", "_law_most", "_law_narrow", "_law_best", "_law_sets", "_law_k", "_law_one", "_law_two", "_law_lost_here", "_law_due", "_law_before", "_law_after", "_law_bad", "_law_work", "_law_beyond", "_law_car"]
theorem scLaw : FnScope nLaw ["_law_script"] (defScope sLaw) := ⟨rfl, rfl, rfl, by decide +kernel, rfl, by decide +kernel, by decide +kernel⟩
theorem RoadAt.keepB {CR : Addr} {H H' : Hp} {p r : Addr} {secs : List Sec} {xs : List V} (h : RoadAt CR H p secs) (k : KeepB r H H') (hr : H r = some (.lst xs)) : RoadAt CR H' p secs := by
  obtain ⟨dx, t, u, h1, ⟨ts, a1, a2, a3⟩, h3⟩ := h
  have nl := k.notlst hr
  exact ⟨dx, t, u, nl _ _ h1 fun _ z => (nomatch z), ⟨ts, nl _ _ a1 fun _ z => (nomatch z), a2, fun i t s e1 e2 => nl _ _ (a3 i t s e1 e2) fun _ z => nomatch z⟩, h3⟩
theorem CarsAt.keepB {H H' : Hp} {a r : Addr} {cars : List Car} {xs : List V} (h : CarsAt H a cars) (k : KeepB r H H') (hr : H r = some (.lst xs)) : CarsAt H' a cars := by
  obtain ⟨ts, h1, h2, h3⟩ := h
  have nl := k.notlst hr
  exact ⟨ts, nl _ _ h1 fun _ z => (nomatch z), h2, fun i t c e1 e2 => nl _ _ (h3 i t c e1 e2) fun _ z => nomatch z⟩
theorem TupsAt.keepB {H H' : Hp} {a r : Addr} {vss : List (List V)} {xs : List V} (h : TupsAt H a vss) (k : KeepB r H H') (n : a ≠ r) (hr : H r = some (.lst xs)) : TupsAt H' a vss := by
  obtain ⟨ts, h1, h2, h3⟩ := h
  exact ⟨ts, k _ _ h1 n, h2, fun i t v e1 e2 => k _ _ (h3 i t v e1 e2) (ne_of (h3 i t v e1 e2) hr (by intro z; cases z))⟩
structure RC (CR : Addr) (T : List (Addr × Str)) (H : Hp) (p a : Addr) (secs : List Sec) (cars : List Car) : Prop where
  rd : RoadAt CR H p secs
  ct : CarsAt H a cars
  so : SecsOk secs
  co : CarsOk cars
  tb : Tabs T H
theorem RC.ext {CR : Addr} {T : List (Addr × Str)} {H H' : Hp} {p a : Addr} {secs : List Sec} {cars : List Car} (h : RC CR T H p a secs cars) (e : ExtN H H') (t : Tabs T H') : RC CR T H' p a secs cars := ⟨h.rd.ext2 e, h.ct.ext e, h.so, h.co, t⟩
/-- what the law has at hand -/
structure LawB (K : PySem.W.Frag) (CR : Addr) (T : List (Addr × Str)) (H : Hp) (r sc l a p tq : Addr) (ns : List Int) (secs : List Sec) (cars : List Car) : Prop where
  row : RowAt K H r sc ns
  rn : RunsAt H l secs
  nl : l ≠ r
  tp : TupsAt H a (cars.map Car.vs)
  na : a ≠ r
  rc : RC CR T H p tq secs cars
theorem LawB.ext {K : PySem.W.Frag} {CR : Addr} {T : List (Addr × Str)} {H H' : Hp} {r sc l a p tq : Addr} {ns : List Int} {secs : List Sec} {cars : List Car} (F : LawB K CR T H r sc l a p tq ns secs cars) (e : ExtN H H') (t : Tabs T H') : LawB K CR T H' r sc l a p tq ns secs cars :=
  ⟨F.row.ext e, F.rn.ext2 e, F.nl, F.tp.ext e, F.na, F.rc.ext e t⟩
theorem LawB.same {K : PySem.W.Frag} {CR : Addr} {T : List (Addr × Str)} {H H' : Hp} {r sc l a p tq : Addr} {ns : List Int} {secs : List Sec} {cars : List Car} (F : LawB K CR T H r sc l a p tq ns secs cars) (e : Same H H') : LawB K CR T H' r sc l a p tq ns secs cars := F.ext (ExtN.same e) (F.rc.tb.ext e)
theorem LawB.keep {K : PySem.W.Frag} {CR : Addr} {T : List (Addr × Str)} {H H' : Hp} {r sc l a p tq : Addr} {ns : List Int} {secs : List Sec} {cars : List Car} (F : LawB K CR T H r sc l a p tq ns secs cars) (k : KeepB r H H') (R : RowAt K H' r sc ns) : LawB K CR T H' r sc l a p tq ns secs cars := by
  obtain ⟨x, hx⟩ := F.row.lst
  exact ⟨R, F.rn.keep k F.nl hx, F.nl, F.tp.keepB k F.na hx, F.na, F.rc.rd.keepB k hx, F.rc.ct.keepB k hx, F.rc.so, F.rc.co, Tabs.keepL F.rc.tb (k.notlst hx)⟩
/-- what may be asked of fewest_widened and first_loser -/
def spFewX (CR CN : Addr) (T : List (Addr × Str)) : Sp := fun vs H Q E => spFew CR T vs H Q E ∨ spFewU CR CN T vs H Q E
def spFLX (CR CS CN : Addr) (T : List (Addr × Str)) : Sp := fun vs H Q E => spFL CR T vs H Q E ∨ spFLU CR CS CN T vs H Q E
/-- all that the law asks of the program -/
structure Env07 (P : Program) (w : World) (K : PySem.W.Frag) (mg : Str → Option Value) (base : Heap) (CR C CE c0 c1 CS c3 CN : Addr) (T : List (Addr × Str)) : Prop where
  M : Mg mg
  Mx : mg "max" = none
  Mn : mg "min" = none
  ET : ErrTab mg CE c0 c1 CS c3 CN
  J2 : ErrJ K CE c0 c1 CS c3 CN CS 2
  J4 : ErrJ K CE c0 c1 CS c3 CN CN 4
  dice : ∃ f fd, Fb K mg "_law_dice" sDice ["_law_script"] f fd ∧ FnOk P w K mg base CX0 1 f fd ["_law_script"] (spDice K)
  next : ∃ f fd, Fb K mg "_law_next" sNext ["_law_dice_here", "_law_many"] f fd ∧ FnOk P w K mg base CX0 1 f fd ["_law_dice_here", "_law_many"] (spNext K)
  pick : ∃ f fd, Fb K mg "_law_pick" sPick ["_law_d", "_law_some"] f fd ∧ FnOk P w K mg base CX0 2 f fd ["_law_d", "_law_some"] (spPick K)
  parts : ∃ f fd, Fb K mg "_law_parts" sParts ["_law_d", "_law_most", "_law_long"] f fd ∧ FnOk P w K mg base CX0 3 f fd ["_law_d", "_law_most", "_law_long"] (spParts K)
  cars : ∃ f fd, Fb K mg "_law_cars" sCars ["_law_d", "_law_most", "_law_span", "_law_paces"] f fd ∧ FnOk P w K mg base CX0 2 f fd ["_law_d", "_law_most", "_law_span", "_law_paces"] (spCars K)
  made : ∃ f fd, Fb K mg "_law_made" sMade ["_law_parts_here"] f fd ∧ FnOk P w K mg base CX0 6 f fd ["_law_parts_here"] (spMade CR)
  like : ∃ f fd, Fb K mg "_law_like" sLike ["_law_found", "_law_due"] f fd ∧ FnOk P w K mg base CX0 3 f fd ["_law_found", "_law_due"] (spL2 K)
  arrs : ∃ f fd, Fb K mg "_law_arrivals" sArrivals ["_law_parts_here", "_law_cars_here"] f fd ∧ FnOk P w K mg base CX0 3 f fd ["_law_parts_here", "_law_cars_here"] spArrs
  wide : ∃ f fd, Fb K mg "_law_wide" sWide ["_law_parts_here", "_law_indexes"] f fd ∧ FnOk P w K mg base CX0 1 f fd ["_law_parts_here", "_law_indexes"] spWide
  lost : ∃ f fd, Fb K mg "_law_lost" sLost ["_law_parts_here", "_law_cars_here"] f fd ∧ FnOk P w K mg base CX0 4 f fd ["_law_parts_here", "_law_cars_here"] spLost
  few : ∃ f fd, Fb K mg "fewest_widened" sFewestWidened ["road", "cars", "most"] f fd ∧ FnOk P w K mg base (L2.CX P w) 8 f fd ["road", "cars", "most"] (spFewX CR CN T)
  loser : ∃ f, mg "first_loser" = some (.ref f) ∧ PySem.W.keepIn K (.ref f) = true ∧ FnR P w K mg base (L2.CX P w) 7 f (spFLX CR CS CN T)
  harm : ∃ f fd, Fb K mg "harmful_widenings" sHarmfulWidenings ["road", "cars"] f fd ∧ FnOk P w K mg base CX0 8 f fd ["road", "cars"] (spHarm CR T)
  told : ∃ g cdv, Teller K mg "_law_told" "_law_work" g nTold (defBody sTold) (defScope sTold) cdv
section
variable {P : Program} {w : World} {K : PySem.W.Frag} {mg : Str → Option Value} {base : Heap}
def spLaw (K : PySem.W.Frag) (T : List (Addr × Str)) : Sp := fun vs H Q _ => ∃ (sc : Addr) (ns : List Int), vs = [.ref sc] ∧ SqL K H sc (ns.map V.int) ∧ Tabs T H ∧ ∀ H', Q (.bl true) H'
theorem ok_law {f c Pt CR C CE c0 c1 CS c3 CN : Addr} {fd : FuncData} {T : List (Addr × Str)} (F : FunC K "law" "law" sLaw f fd c) (TB : TabB base mg c Pt) (hm : (Pt, qLaw) ∈ T) (hut : ∀ p ∈ T, p.1 = Pt → p.2 = qLaw) (X9 : Env07 P w K mg base CR C CE c0 c1 CS c3 CN T) : FnOk P w K mg base CX0 11 f fd ["_law_script"] (spLaw K T) := by
  refine F.ok scLaw (fun vs H Q E h => ?_) (fun A outer s Hs vs Q E hr h => ?_)
  · obtain ⟨sc, ns, rfl, _⟩ := h
    rfl
  · obtain ⟨sc, ns, rfl, hsc, hT, k⟩ := h
    have nd := scLaw.nd
    have hu := hu_of hr
    have hu64 := hr.units
    have M := X9.M
    have Mx := X9.Mx
    have Mn := X9.Mn
    have ET := X9.ET
    have J2 := X9.J2
    have J4 := X9.J4
    obtain ⟨_, _, BDi, GDi⟩ := X9.dice
    obtain ⟨_, _, BNe, GNe⟩ := X9.next
    obtain ⟨_, _, BPi, GPi⟩ := X9.pick
    obtain ⟨_, _, BPa, GPa⟩ := X9.parts
    obtain ⟨_, _, BCa, GCa⟩ := X9.cars
    obtain ⟨_, _, BMa, GMa⟩ := X9.made
    obtain ⟨_, _, BLk, GLk⟩ := X9.like
    obtain ⟨_, _, BAr, GAr⟩ := X9.arrs
    obtain ⟨_, _, BWi, GWi⟩ := X9.wide
    obtain ⟨_, _, BLo, GLo⟩ := X9.lost
    obtain ⟨_, _, BFe, GFe⟩ := X9.few
    obtain ⟨_, aFl, kFl, GFl⟩ := X9.loser
    obtain ⟨_, _, BHa, GHa⟩ := X9.harm
    obtain ⟨_, _, WT⟩ := X9.told
    have room : ∀ n, n ≤ 10 → Room n (A.deeper (PyProof.Rows.envOfC "law" (defScope sLaw) s.heap.objs.size f (.ref c))) := fun n h => hr.mono h
    have hr1 := room 1 (by decide)
    have hr2 := room 2 (by decide)
    have hr3 := room 3 (by decide)
    have hr4 := room 4 (by decide)
    have hr6 := room 6 (by decide)
    have hr7 := room 7 (by decide)
    have hr8 := room 8 (by decide)
    have hr10 : Room (8 + 2) (A.deeper (PyProof.Rows.envOfC "law" (defScope sLaw) s.heap.objs.size f (.ref c))) := room 10 (by decide)
    refine ⟨_, (pss_cons (ps_set (i := 1) nd rfl (.inl rfl) (pe_call GDi hr1 (by rfl) BDi.at_ BDi.fn.kp BDi.bd .nil pass0 (pa_cons (pv 0) pa_nil))) (pss_cons (ps_for PassesOwn.never rfl (pi_range1 (by rfl) M.range (pa_cons pe_int pa_nil)) (pg_name (i := 2) nd rfl (.inl rfl)) (pss_cons (ps_asg (pe_tup (pa_cons (pe_call GPa hr3 (by rfl) BPa.at_ BPa.fn.kp BPa.bd .nil pass0 (pa_cons (pv 1) (pa_cons pe_int (pa_cons pe_int pa_nil)))) (pa_cons (pe_call GCa hr2 (by rfl) BCa.at_ BCa.fn.kp BCa.bd .nil pass0 (pa_cons (pv 1) (pa_cons pe_int (pa_cons pe_int (pa_cons pe_int pa_nil))))) pa_nil))) (pg_tup rfl (pgs_cons (pg_name (i := 3) nd rfl (.inr rfl)) (pgs_cons (pg_name (i := 4) nd rfl (.inr rfl)) pgs_nil)))) (pss_cons (ps_asg (pe_tup (pa_cons (pe_call GMa hr6 (by rfl) BMa.at_ BMa.fn.kp BMa.bd .nil pass0 (pa_cons (pv 3) pa_nil)) (pa_cons (pe_callTy call_tuple_of (by rfl) M.tuple boot_tTuple (pa_cons (pv 4) pa_nil)) (pa_cons (pe_call GPi hr2 (by rfl) BPi.at_ BPi.fn.kp BPi.bd .nil pass0 (pa_cons (pv 1) (pa_cons (pe_lst (pa_cons pe_int (pa_cons (pe_call GNe hr1 (by rfl) BNe.at_ BNe.fn.kp BNe.bd .nil pass0 (pa_cons (pv 1) (pa_cons pe_int pa_nil))) (pa_cons (pe_call GNe hr1 (by rfl) BNe.at_ BNe.fn.kp BNe.bd .nil pass0 (pa_cons (pv 1) (pa_cons pe_int pa_nil))) pa_nil)))) pa_nil))) pa_nil)))) (pg_tup rfl (pgs_cons (pg_name (i := 5) nd rfl (.inr rfl)) (pgs_cons (pg_name (i := 6) nd rfl (.inr rfl)) (pgs_cons (pg_name (i := 7) nd rfl (.inr rfl)) pgs_nil))))) (pss_cons (ps_par (i := 8) (j := 9) rfl nd rfl rfl (by decide) rfl rfl (pa_cons (pe_lc (own := [("_law_k", 11)]) (g := gName 11) (tt := tTest (tOp rEq (tOp (rIxT K) (tOp (rIxL K) (tVar 3) (tVar 11)) (tC (.int 0))) (tC (.str "narrow")))) (te := tVar 11) (by rfl) nd (pi_range1 (by rfl) M.range (pa_cons (pe_callB call_len_seq (by rfl) M.len boot_len (pa_cons (pv 3) pa_nil)) pa_nil)) (blkOk_by (N := nLaw) (sc := defScope sLaw) (by decide +kernel)) (fun _ _ _ _ _ => (pg_name (i := 11) nd rfl (.inl rfl))) (fun _ _ _ _ _ => (pts_one (pt_cmpR op_eq (pe_ix (r := rIxT K) ix_tup (pe_ix (r := rIxL K) ix_list (pv 3) (pv 11) (fun _ _ => rfl)) pe_int (fun _ _ => rfl)) pe_str (nomark _)))) (fun _ _ _ _ _ => (pv 11))) (pa_cons (pe_lst pa_nil) pa_nil)) rfl) (pss_cons (ps_set (i := 10) nd rfl (.inl rfl) (pe_lst (pa_cons (pe_lst pa_nil) pa_nil))) (pss_cons (ps_for PassesOwn.never rfl (pi_list (pv 8)) (pg_name (i := 11) nd rfl (.inr rfl)) (pss_one (ps_set (i := 10) nd rfl (.inl rfl) (pe_op op_cat (pv 10) (pe_lc (own := [("_law_one", 12)]) (g := gName 12) (tt := tYes) (te := tOp rCat (tVar 12) (tLst (tCons (tVar 11) tNil))) (by rfl) nd (pi_list (pv 10)) (blkOk_by (N := nLaw) (sc := defScope sLaw) (by decide +kernel)) (fun _ _ _ _ _ => (pg_name (i := 12) nd rfl (.inl rfl))) (fun _ _ _ _ _ => pts_nil) (fun _ _ _ _ _ => (pe_op op_cat (pv 12) (pe_lst (pa_cons (pv 11) pa_nil))))))))) (pss_cons (ps_for PassesOwn.never rfl (pi_list (pv 10)) (pg_name (i := 12) nd rfl (.inl rfl)) (pss_one (ps_if (pt_cmpR op_le (pe_callB (cr_max rfl) (by rfl) Mx boot_max (pa_cons (pe_op op_cat (pe_lst (pa_cons pe_int pa_nil)) (pe_call GLo hr4 (by rfl) BLo.at_ BLo.fn.kp BLo.bd .nil pass0 (pa_cons (pe_call GWi hr1 (by rfl) BWi.at_ BWi.fn.kp BWi.bd .nil pass0 (pa_cons (pv 3) (pa_cons (pv 12) pa_nil))) (pa_cons (pv 4) pa_nil)))) pa_nil)) (pv 7) (nomark _)) (pss_one (ps_expr (pe_bm PySem.F.plainAttrs_list PySem.F.slot_list_append PySem.F.type_list_append mt_append (pv 9) (pa_cons (pe_tup (pa_cons (pe_callB call_len_seq (by rfl) M.len boot_len (pa_cons (pv 12) pa_nil)) (pa_cons (pv 12) pa_nil))) pa_nil)))) pss_nil))) (pss_cons (ps_if (pt_not (pt_val (pe_call GLk hr3 (by rfl) BLk.at_ BLk.fn.kp BLk.bd .nil pass0 (pa_cons (pe_call GFe hr8 (by rfl) BFe.at_ BFe.fn.kp BFe.bd .nil passL (pa_cons (pv 5) (pa_cons (pv 6) (pa_cons (pv 7) pa_nil)))) (pa_cons (pe_ix (r := rIxT K) ix_tup (pe_callB (call_minT rfl hu64) (by rfl) Mn boot_min (pa_cons (pv 9) pa_nil)) pe_int (fun _ _ => rfl)) pa_nil))))) (pss_one (ps_ret pe_bl)) pss_nil) (pss_cons (ps_par (i := 12) (j := 13) rfl nd rfl rfl (by decide) rfl rfl (pa_cons (pe_call GNe hr1 (by rfl) BNe.at_ BNe.fn.kp BNe.bd .nil pass0 (pa_cons (pv 1) (pa_cons (pe_callB call_len_seq (by rfl) M.len boot_len (pa_cons (pv 3) pa_nil)) pa_nil))) (pa_cons (pe_call GNe hr1 (by rfl) BNe.at_ BNe.fn.kp BNe.bd .nil pass0 (pa_cons (pv 1) (pa_cons (pe_callB call_len_seq (by rfl) M.len boot_len (pa_cons (pv 3) pa_nil)) pa_nil))) pa_nil)) rfl) (pss_cons (ps_set (i := 14) nd rfl (.inr rfl) (pe_call GLo hr4 (by rfl) BLo.at_ BLo.fn.kp BLo.bd .nil pass0 (pa_cons (pe_call GWi hr1 (by rfl) BWi.at_ BWi.fn.kp BWi.bd .nil pass0 (pa_cons (pv 3) (pa_cons (pe_lst (pa_cons (pv 12) (pa_cons (pv 13) pa_nil))) pa_nil))) (pa_cons (pv 4) pa_nil)))) (pss_cons (ps_set (i := 15) nd rfl (.inl rfl) (pe_ix (r := rIxL K) ix_list (pe_op op_cat (pe_lc (own := [("_law_k", 11)]) (g := gName 11) (tt := tTest (tOp (rI0 fun i j => .bl (decide (j < i))) (tOp (rIxL K) (tVar 14) (tVar 11)) (tVar 7))) (te := tOp (rIxT K) (tOp (rIxL K) (tVar 4) (tVar 11)) (tC (.int 0))) (by rfl) nd (pi_range1 (by rfl) M.range (pa_cons (pe_callB call_len_seq (by rfl) M.len boot_len (pa_cons (pv 4) pa_nil)) pa_nil)) (blkOk_by (N := nLaw) (sc := defScope sLaw) (by decide +kernel)) (fun _ _ _ _ _ => (pg_name (i := 11) nd rfl (.inl rfl))) (fun _ _ _ _ _ => (pts_one (pt_cmpR op_gt (pe_ix (r := rIxL K) ix_list (pv 14) (pv 11) (fun _ _ => rfl)) (pv 7) (nomark _)))) (fun _ _ _ _ _ => (pe_ix (r := rIxT K) ix_tup (pe_ix (r := rIxL K) ix_list (pv 4) (pv 11) (fun _ _ => rfl)) pe_int (fun _ _ => rfl)))) (pe_lst (pa_cons pe_non pa_nil))) pe_int (fun _ _ => rfl))) (pss_cons (ps_if (pt_cmpR op_ne (pe_callR GFl hr7 kFl (by rfl) aFl passL (pa_cons (pv 5) (pa_cons (pv 6) (pa_cons (pv 7) (pa_cons (pv 12) (pa_cons (pv 13) pa_nil)))))) (pv 15) (nomark _)) (pss_one (ps_ret pe_bl)) pss_nil) (pss_cons (ps_asg (pe_tup (pa_cons (pe_call GAr hr3 (by rfl) BAr.at_ BAr.fn.kp BAr.bd .nil pass0 (pa_cons (pv 3) (pa_cons (pv 4) pa_nil))) (pa_cons (pe_lst pa_nil) pa_nil))) (pg_tup rfl (pgs_cons (pg_name (i := 16) nd rfl (.inr rfl)) (pgs_cons (pg_name (i := 15) nd rfl (.inl rfl)) pgs_nil)))) (pss_cons (ps_for PassesOwn.never rfl (pi_range1 (by rfl) M.range (pa_cons (pe_callB call_len_seq (by rfl) M.len boot_len (pa_cons (pv 3) pa_nil)) pa_nil)) (pg_name (i := 11) nd rfl (.inr rfl)) (pss_cons (ps_set (i := 17) nd rfl (.inr rfl) (pe_call GAr hr3 (by rfl) BAr.at_ BAr.fn.kp BAr.bd .nil pass0 (pa_cons (pe_call GWi hr1 (by rfl) BWi.at_ BWi.fn.kp BWi.bd .nil pass0 (pa_cons (pv 3) (pa_cons (pe_lst (pa_cons (pv 11) pa_nil)) pa_nil))) (pa_cons (pv 4) pa_nil)))) (pss_one (ps_set (i := 15) nd rfl (.inl rfl) (pe_op op_cat (pv 15) (pe_lc (own := [("_law_car", 21)]) (g := gName 21) (tt := tTest (tOp (rI0 fun i j => .bl (decide (j < i))) (tDGet (tVar 17) (tOp (rIxT K) (tVar 21) (tC (.int 0)))) (tDGet (tVar 16) (tOp (rIxT K) (tVar 21) (tC (.int 0)))))) (te := tTup (tCons (tVar 11) (tCons (tOp (rIxT K) (tVar 21) (tC (.int 0))) tNil))) (by rfl) nd (pi_list (pv 4)) (blkOk_by (N := nLaw) (sc := defScope sLaw) (by decide +kernel)) (fun _ _ _ _ _ => (pg_name (i := 21) nd rfl (.inl rfl))) (fun _ _ _ _ _ => (pts_one (pt_cmpR op_gt (pe_dget hu (pv 17) (pe_ix (r := rIxT K) ix_tup (pv 21) pe_int (fun _ _ => rfl)) (fun _ _ => rfl)) (pe_dget hu (pv 16) (pe_ix (r := rIxT K) ix_tup (pv 21) pe_int (fun _ _ => rfl)) (fun _ _ => rfl)) (nomark _)))) (fun _ _ _ _ _ => (pe_tup (pa_cons (pv 11) (pa_cons (pe_ix (r := rIxT K) ix_tup (pv 21) pe_int (fun _ _ => rfl)) pa_nil)))))))))) (pss_cons (ps_if (pt_not (pt_val (pe_call GLk hr3 (by rfl) BLk.at_ BLk.fn.kp BLk.bd .nil pass0 (pa_cons (pe_call GHa hr8 (by rfl) BHa.at_ BHa.fn.kp BHa.bd .nil pass0 (pa_cons (pv 5) (pa_cons (pv 6) pa_nil))) (pa_cons (pv 15) pa_nil))))) (pss_one (ps_ret pe_bl)) pss_nil) (pss_cons (ps_set (i := 18) nd rfl (.inr rfl) (pe_call GPi hr2 (by rfl) BPi.at_ BPi.fn.kp BPi.bd .nil pass0 (pa_cons (pv 1) (pa_cons (pe_lst (pa_cons (pe_un un_neg pe_int) (pa_cons (pe_op op_add (pe_op op_pow pe_int pe_int) pe_int) (pa_cons pe_non (pa_cons pe_bl pa_nil))))) pa_nil)))) (pss_cons (ps_set (i := 19) nd rfl (.inl rfl) (pe_lst (pa_cons (pe_lamV TB rfl hm hut (lamS2_by (N := nLaw) (sc := defScope sLaw) (by decide +kernel))) (pa_cons (pe_lamD (a := "_law_a") TB rfl hm hut (lamS2_by (N := nLaw) (sc := defScope sLaw) (by decide +kernel))) pa_nil)))) (pss_cons (ps_if (pt_cmpR (op_neD hu64) (pe_lcM (own := [("_law_one", 12)]) (g := gName 12) (te := fun σ => tToldM (cxOf CX0 P w K mg base nLaw "law" (defScope sLaw) f (.ref c) A outer s Hs L2.E0).nox σ 8 (TTel K CE c0 c1 CS c3 CN) (tVar 12)) (by rfl) nd (pi_list (pv 19)) (blkOk_by (N := nLaw) (sc := defScope sLaw) (by decide +kernel)) (fun _ _ _ _ _ => (pg_name (i := 12) nd rfl (.inl rfl))) (fun _ _ _ _ _ _ _ I hf => pe_toldM I hf WT (by rfl) (told_gives M ET) hr10 (pv 12))) (pe_op op_rep (pe_lst (pa_cons (pe_tup (pa_cons pe_str (pa_cons pe_str pa_nil))) pa_nil)) pe_int) (nomark _)) (pss_one (ps_ret pe_bl)) pss_nil) (pss_cons (ps_set (i := 20) nd rfl (.inr rfl) (pe_callB call_len_seq (by rfl) M.len boot_len (pa_cons (pv 3) pa_nil))) (pss_one (ps_if (pt_cmpR (op_neD hu64) (pe_told WT (by rfl) (told_gives M ET) hr10 (pe_lamD (a := "_law_b") TB rfl hm hut (lamS2_by (N := nLaw) (sc := defScope sLaw) (by decide +kernel)))) (pe_tup (pa_cons pe_str (pa_cons pe_str (pa_cons (pv 20) pa_nil)))) (nomark _)) (pss_one (ps_ret pe_bl)) pss_nil))))))))))))))))))))) (pss_one (ps_ret pe_bl)))), ?_⟩
    refine ⟨_, rfl, sc, ns, rfl, hsc, fun H0 r s0 hr0 R0 => ?_⟩
    have T0 : Tabs T H0 := hT.ext s0
    clear hT hsc s0 hr0
    refine ⟨2, rfl, by decide, by decide, for_it walk_range (fun i σ H1 => ∃ v2 v3 v4 v5 v6 v7 v8 v9 v10 v11 v12 v13 v14 v15 v16 v17 v18 v19 v20, σ = [some (.ref sc), some (.ref r), v2, v3, v4, v5, v6, v7, v8, v9, v10, v11, v12, v13, v14, v15, v16, v17, v18, v19, v20, none] ∧ RowAt K H1 r sc ns ∧ Tabs T H1)
      ⟨_, _, _, _, _, _, _, _, _, _, _, _, _, _, _, _, _, _, _, rfl, R0, T0⟩ (fun _ _ _ _ _ => True.intro) ?_ ?_⟩
    rotate_left
    · rintro σ H2 ⟨_, _, _, _, _, _, _, _, _, _, _, _, _, _, _, _, _, _, _, rfl, _, _⟩
      exact k H2
    clear R0 T0
    rintro turn x σ Hz H1 hturn ⟨v2, v3, v4, v5, v6, v7, v8, v9, v10, v11, v12, v13, v14, v15, v16, v17, v18, v19, v20, rfl, R1, T1⟩ ⟨e, ex⟩
    subst e ex
    obtain ⟨x1, hx1⟩ := R1.lst
    refine ⟨_, rfl, r, sc, ns, 5, 9, rfl, by decide, by decide, by decide, by decide, R1, fun H2 l secs k2 R2 hl nlr rn2 l1 l5 hd => ?_⟩
    have T2 : Tabs T H2 := Tabs.keepL T1 (k2.notlst hx1)
    clear k2 R1 T1 hx1 hl
    obtain ⟨x2, hx2⟩ := R2.lst
    refine ⟨_, rfl, r, sc, ns, 5, 60, 20, rfl, by decide, by decide, by decide, by decide, R2, fun H6 a cars k6 R6 ha nar tp6 CO c5 hw => ?_⟩
    have T6 : Tabs T H6 := Tabs.keepL T2 (k6.notlst hx2)
    have rn6 := rn2.keep k6 nlr hx2
    clear k6 R2 T2 rn2 hx2 ha
    have SO : SecsOk secs := ⟨fun z => by rw [z] at l1; simp at l1, by omega, fun s hs => by have := hd s hs; omega⟩
    refine ⟨by show 2 ≤ sizeLine; decide, fun tp htp => ⟨tp, _, rfl, SqT.of upd_same, rfl, _, _, rfl, _, _, rfl, rfl, ?_⟩⟩
    have s7 := sameNew htp (.tup [V.ref l, V.ref a])
    replace R6 := R6.same s7
    replace T6 := T6.ext s7
    replace rn6 := rn6.ext2 (ExtN.same s7)
    replace tp6 := tp6.ext (ExtN.same s7)
    generalize upd H6 tp (.tup [V.ref l, V.ref a]) = H7 at R6 T6 rn6 tp6 ⊢
    clear s7 htp
    refine ⟨_, rfl, l, secs, rfl, rn6, SO, fun H8 p s8 hp rd8 => ?_⟩
    obtain ⟨ts, c1, c2, c3⟩ := id (tp6.ext (ExtN.same s8))
    refine ⟨_, rfl, a, _, rfl, .inl ⟨SqL.of c1, fun tq htq => ?_⟩⟩
    rw [List.length_map] at c2
    have s9 := sameNew htq (.tup (ts.map V.ref))
    have ct9 : CarsAt (upd H8 tq (.tup (ts.map V.ref))) tq cars := ⟨ts, upd_same, c2, fun i t c e1 e2 => s9 _ _ (c3 i t c.vs e1 (by rw [List.getElem?_map, e2]; rfl))⟩
    have F9 : LawB K CR T (upd H8 tq (.tup (ts.map V.ref))) r sc l a p tq ns secs cars := ⟨(R6.same s8).same s9, rn6.ext2 (ExtN.same (s8.trans s9)), nlr, tp6.ext (ExtN.same (s8.trans s9)), nar, ⟨rd8.ext2 (ExtN.same s9), ct9, SO, CO, T6.ext (s8.trans s9)⟩⟩
    generalize upd H8 tq (.tup (ts.map V.ref)) = H9 at F9 ⊢
    clear s8 s9 T6 R6 rn6 tp6 rd8 ct9 htq hp c1 c3 c2 ts nlr nar
    have h10 := CO.few
    have h12 := SO.few
    have nok := namesOk CO
    -- the greatest loss
    refine ⟨_, rfl, _, rfl, r, sc, ns, 20, rfl, by decide, by decide, F9.row, fun H10 n1 k10 R10 hn1 => ?_⟩
    have F10 := F9.keep k10 R10
    clear F9 k10 R10
    refine ⟨_, rfl, r, sc, ns, 200, rfl, by decide, by decide, F10.row, fun H11 n2 k11 R11 hn2 => ?_⟩
    have F11 := F10.keep k11 R11
    clear F10 k11 R11
    refine ⟨by show 3 ≤ sizeLine; decide, fun q hq => ?_⟩
    have s12 := sameNew hq (.lst [V.int 0, V.int ((n1 : Nat) : Int), V.int ((n2 : Nat) : Int)])
    have hql : upd H11 q (.lst [V.int 0, V.int ((n1 : Nat) : Int), V.int ((n2 : Nat) : Int)]) q = some (.lst [V.int 0, V.int ((n1 : Nat) : Int), V.int ((n2 : Nat) : Int)]) := upd_same
    have nqr : q ≠ r := (ne_of_none F11.row.lst.choose_spec hq).symm
    have F12 := F11.same s12
    clear F11 s12 hq
    refine ⟨r, sc, ns, q, _, rfl, hql, by show 1 ≤ 3; decide, by show 3 ≤ 1000; decide, nqr, F12.row, fun H13 qi v k13 R13 hv => ?_⟩
    have F13 := F12.keep k13 R13
    clear F12 k13 R13 hql nqr
    obtain ⟨m, rfl, m0, m1⟩ : ∃ m : Int, v = .int m ∧ 0 ≤ m ∧ m ≤ 1000000 := by
      match qi, hv with
      | 0, hv => exact ⟨0, (Option.some.inj hv).symm, by decide, by decide⟩
      | 1, hv => exact ⟨((n1 : Nat) : Int), (Option.some.inj hv).symm, by omega, by omega⟩
      | 2, hv => exact ⟨((n2 : Nat) : Int), (Option.some.inj hv).symm, by omega, by omega⟩
    clear hv qi hn1 hn2 n1 n2
    refine ⟨by show 3 ≤ sizeLine; decide, fun tp htp => ⟨tp, _, rfl, SqT.of upd_same, rfl, _, _, rfl, _, _, rfl, _, _, rfl, rfl, ?_⟩⟩
    have F14 := F13.same (sameNew htp (.tup [V.ref p, V.ref tq, V.int m]))
    generalize upd H13 tp (.tup [V.ref p, V.ref tq, V.int m]) = H14 at F14 ⊢
    clear F13 htp
    -- the narrow sections
    obtain ⟨us, u1, u2, u3⟩ := id F14.rn
    have hus : (us.map V.ref).length = secs.length := by rw [List.length_map, u2]
    refine ⟨_, rfl, l, _, rfl, .inl (SqL.of u1), ?_⟩
    rw [hus]
    refine ⟨_, rfl, by omega, by omega, fun D hD => ?_⟩
    rw [Int.toNat_natCast]
    refine lc_it walk_range (fun i H1 => Same H14 H1 ∧ H1 D = some (.lst (natV (narL secs i)))) ⟨sameNew hD _, upd_same⟩ (fun _ _ _ _ => True.intro) ?_ ?_
    · rintro i z Hz H15 hi ⟨k1, d1⟩ ⟨e, ez⟩
      have ez : z = V.int ((i : Nat) : Int) := by
        rw [ez]
        show V.int (0 + ((i : Nat) : Int)) = _
        rw [Int.zero_add]
      subst e ez
      obtain ⟨t, ht⟩ : ∃ t, us[i]? = some t := ⟨_, List.getElem?_eq_getElem (by omega)⟩
      have hc : secs[i]? = some secs[i] := List.getElem?_eq_getElem hi
      have hct := k1 _ _ (u3 i t _ ht hc)
      have hn : isNar secs i = !secs[i].1 := by unfold isNar; rw [hc]; rfl
      have hnl := narL_len secs i
      refine ⟨rfl, ?_⟩
      refine ⟨_, rfl, _, rfl, l, _, _, .ref t, rfl, rfl, SqL.of (k1 _ _ u1), atI_nat (map_at V.ref ht), t, _, _, _, rfl, rfl, SqT.of hct, rfl, rfl, _, rfl, ?_⟩
      rw [show decide (V.str (kindS secs[i].1) = V.str "narrow") = isNar secs i by rw [hn]; cases secs[i].1 <;> rfl, narL_succ]
      cases hq : isNar secs i with
      | true =>
        refine iteT ⟨_, rfl, _, d1, small1000 (by rw [natV_len]; omega), fun b o e => by rw [upd_ne (ne_of_none e hD)]; exact k1 _ _ e, ?_⟩
        rw [upd_same, if_pos rfl, natV_app]
        rfl
      | false =>
        refine iteF ⟨k1, ?_⟩
        rw [if_neg (by decide), List.append_nil]
        exact d1
    rintro H15 ⟨s15, D15⟩
    have F15 := F14.same s15
    clear F14 s15 u1 u3 hD us u2 hus
    have nl5 : (narL secs secs.length).length ≤ 5 := by have := narL_len secs secs.length; omega
    generalize hnar : narL secs secs.length = nar at D15 nl5
    -- the choices
    refine ⟨by show 0 ≤ sizeLine; decide, fun b hb => ?_⟩
    have sb := sameNew hb (.lst [])
    have b16 : upd H15 b (.lst []) b = some (.lst []) := upd_same
    have D16 := sb _ _ D15
    have Db : D ≠ b := ne_of_none D15 hb
    refine ⟨_, _, rfl, ?_⟩
    generalize upd H15 b (.lst []) = H16 at sb b16 D16 ⊢
    refine ⟨by show 0 ≤ sizeLine; decide, fun q0 hq0 => ⟨by show 1 ≤ sizeLine; decide, fun q1 hq1 => ?_⟩⟩
    have s17 := (sameNew hq0 (.lst [])).trans (sameNew hq1 (.lst [V.ref q0]))
    have w0 := sameNew hq1 (.lst [V.ref q0]) _ _ (upd_same (H := H16) (a := q0) (o := .lst []))
    have w1 : upd (upd H16 q0 (.lst [])) q1 (.lst [V.ref q0]) q1 = some (.lst [V.ref q0]) := upd_same
    have q0b : q0 ≠ b := (ne_of_none b16 hq0).symm
    have q1b : q1 ≠ b := (ne_of_none (sameNew hq0 (.lst []) _ _ b16) hq1).symm
    have S17 : SAt b (upd (upd H16 q0 (.lst [])) q1 (.lst [V.ref q0])) q1 (subsD (nar.take 0)) := ⟨[q0], w1, rfl, fun i t c e1 e2 => by
      match i, e1, e2 with
      | 0, e1, e2 =>
        obtain rfl : q0 = t := Option.some.inj e1
        obtain rfl : ([] : List Nat) = c := Option.some.inj e2
        exact ⟨q0b, w0⟩⟩
    have b17 := s17 _ _ b16
    have D17 := s17 _ _ D16
    generalize upd (upd H16 q0 (.lst [])) q1 (.lst [V.ref q0]) = H17 at s17 S17 b17 D17 ⊢
    clear w0 w1 q0b hq0 hq1 q0
    have sl : ∀ i, (subsD (nar.take i)).length ≤ 32 := fun i => by
      rw [subsD_len]
      exact Nat.pow_le_pow_right (show 0 < 2 by decide) (show (nar.take i).length ≤ 5 by rw [List.length_take]; omega)
    refine ⟨_, rfl, D, rfl, ⟨_, SqL.of D17⟩, for_it walk_list (fun i σ H => ∃ v2 v11 q, σ = [some (.ref sc), some (.ref r), v2, some (.ref l), some (.ref a), some (.ref p), some (.ref tq), some (.int m), some (.ref D), some (.ref b), some (.ref q), v11, v12, v13, v14, v15, v16, v17, v18, v19, v20, none] ∧ Same H17 H ∧ q ≠ b ∧ SAt b H q (subsD (nar.take i)))
      ⟨_, _, q1, rfl, Same.refl _, q1b, S17⟩ (fun i σ H _ ⟨_, _, _, _, k, _⟩ => SqL.of (k _ _ D17)) ?_ ?_⟩
    · rintro i y σ Hz H18 hi ⟨v2', v11', q, rfl, s18, qb, S18⟩ ⟨e, hy⟩
      subst e
      obtain ⟨kk, hkk, rfl⟩ : ∃ kk, nar[i]? = some kk ∧ y = V.int ((kk : Nat) : Int) := by
        unfold natV at hy
        rw [List.getElem?_map] at hy
        obtain ⟨t, z1, z2⟩ := Option.map_eq_some_iff.mp hy
        exact ⟨t, z1, z2.symm⟩
      have l18 := sl i
      have b18 := s18 _ _ b17
      have enext : subsD (nar.take (i + 1)) = subsD (nar.take i) ++ (subsD (nar.take i)).map fun c => c ++ [kk] := by
        rw [List.take_add_one, hkk]
        exact subsD_snoc _ _
      rw [enext]
      have c18 : ∀ c ∈ subsD (nar.take i), c.length ≤ 5 := fun c hc => by have := subsD_le _ c hc; rw [List.length_take] at this; omega
      generalize subsD (nar.take i) = cs at S18 l18 c18
      obtain ⟨ts, t1, t2, t3⟩ := id S18
      refine ⟨_, rfl, _, rfl, q, rfl, ⟨_, SqL.of t1⟩, fun D2 hD2 => ?_⟩
      refine lc_it walk_list (fun j H => LsI b (cs.map fun c => c ++ [kk]) H18 D2 j H) ⟨sameNew hD2 _, [], upd_same, rfl, fun q t c e => by simp at e⟩ (fun j H _ F => SqL.of (F.1 _ _ t1)) ?_ ?_
      · rintro j y Hz H19 hj F ⟨e, hy⟩
        subst e
        obtain ⟨t, ht, rfl⟩ : ∃ t, ts[j]? = some t ∧ y = V.ref t := by
          rw [List.getElem?_map] at hy
          obtain ⟨t, z1, z2⟩ := Option.map_eq_some_iff.mp hy
          exact ⟨t, z1, z2.symm⟩
        rw [List.length_map, t2] at hj
        obtain ⟨cc, hc⟩ : ∃ cc, cs[j]? = some cc := ⟨_, List.getElem?_eq_getElem hj⟩
        have ht19 := F.1 _ _ (t3 j t cc ht hc).2
        refine ⟨rfl, yes_of ⟨_, rfl, _, rfl, by show 1 ≤ sizeLine; decide, fun x hx => ?_⟩⟩
        have sx := sameNew hx (.lst [V.int ((kk : Nat) : Int)])
        refine ⟨t, x, natV cc, [V.int ((kk : Nat) : Int)], rfl, rfl, sx _ _ ht19, upd_same, ?_, fun z hz => ?_⟩
        · have := c18 cc (List.mem_of_getElem? hc)
          rw [natV_len]
          exact Nat.le_of_lt (small1000 (by show cc.length + 1 ≤ 1000; omega))
        · have e1 : natV cc ++ [V.int ((kk : Nat) : Int)] = natV (cc ++ [kk]) := (natV_app cc [kk]).symm
          rw [e1]
          exact F.push hD2 sx hz b18 (by rw [List.getElem?_map, hc]; rfl) (by omega)
      · rintro H19 F
        rw [List.length_map, t2, ← List.length_map (as := cs) (fun c => c ++ [kk])] at F
        have s19 := F.1
        obtain ⟨us, vs, x1, x2, x3, x4, x5⟩ : ∃ us vs, H19 q = some (.lst us) ∧ H19 D2 = some (.lst vs) ∧ us.length = cs.length ∧ vs.length = (cs.map fun c => c ++ [kk]).length ∧ ∀ d, H19 d = none → SAt b (upd H19 d (.lst (us ++ vs))) d (cs ++ cs.map fun c => c ++ [kk]) := (S18.same s19).cat F.sat
        rw [List.length_map] at x4
        refine ⟨q, D2, us, vs, rfl, rfl, x1, x2, Nat.le_of_lt (small1000 (by omega)), fun d hd => ?_⟩
        exact ⟨_, _, d, rfl, s18.trans (s19.trans (sameNew hd _)), (ne_of_none (s19 _ _ b18) hd).symm, x5 d hd⟩
    rintro σ H18 ⟨v2', v11', q, rfl, s18, qb, S18⟩
    rw [show (natV nar).length = nar.length from natV_len nar, List.take_length] at S18
    have l18 : (subsD nar).length ≤ 32 := by have := sl nar.length; rwa [List.take_length] at this
    have c18 : ∀ c ∈ subsD nar, c.length ≤ 5 := fun c hc => by have := subsD_le _ c hc; omega
    have s18' : Same H15 H18 := sb.trans (s17.trans s18)
    have B18 : BAt H18 b (((subsD nar).take 0).filter fun d => decide (loser (widen secs d) cars m = none)) := ⟨[], s18 _ _ b17, rfl, fun i t c e => by simp at e⟩
    clear s17 s18 S17 b17 D17 q1b q1 H17 sb b16 D16 H16 sl
    obtain ⟨ts, t1, t2, t3⟩ := id S18
    refine ⟨_, rfl, q, rfl, ⟨_, SqL.of t1⟩, for_it walk_list (fun i σ H => ∃ v2 v11 v12, σ = [some (.ref sc), some (.ref r), v2, some (.ref l), some (.ref a), some (.ref p), some (.ref tq), some (.int m), some (.ref D), some (.ref b), some (.ref q), v11, v12, v13, v14, v15, v16, v17, v18, v19, v20, none] ∧ Same H15 H ∧ H q = some (.lst (ts.map V.ref)) ∧ SAt b H q (subsD nar) ∧ BAt H b (((subsD nar).take i).filter fun d => decide (loser (widen secs d) cars m = none)))
      ⟨_, _, _, rfl, s18', t1, S18, B18⟩ (fun i σ H _ ⟨_, _, _, _, _, k, _⟩ => SqL.of k) ?_ ?_⟩
    · clear s18' B18 S18 t1 t3
      rintro i y σ Hz H19 hi ⟨v2'', v11'', v12', rfl, s19, t1, S19, B19⟩ ⟨e, hy⟩
      subst e
      obtain ⟨t, ht, rfl⟩ : ∃ t, ts[i]? = some t ∧ y = V.ref t := by
        rw [List.getElem?_map] at hy
        obtain ⟨t, z1, z2⟩ := Option.map_eq_some_iff.mp hy
        exact ⟨t, z1, z2.symm⟩
      rw [List.length_map, t2] at hi
      obtain ⟨cc, hc⟩ : ∃ cc, (subsD nar)[i]? = some cc := ⟨_, List.getElem?_eq_getElem hi⟩
      have hcl := c18 cc (List.mem_of_getElem? hc)
      obtain ⟨tb, ht19⟩ : t ≠ b ∧ H19 t = some (.lst (natV cc)) := by
        obtain ⟨ts', z1, z2, z3⟩ := id S19
        rw [t1] at z1
        have z1 : ts.map V.ref = ts'.map V.ref := by injection z1 with z1; injection z1
        have z4 : ts = ts' := by
          have := congrArg (List.map fun x => match x with | V.ref a => a | _ => (0 : Addr)) z1
          simpa [Function.comp_def] using this
        subst z4
        exact z3 i t cc ht hc
      have F19 := F15.same s19
      refine ⟨by show 1 ≤ sizeLine; decide, fun z hz => ?_⟩
      have sz := sameNew hz (.lst [V.int 0])
      have z20 : upd H19 z (.lst [V.int 0]) z = some (.lst [V.int 0]) := upd_same
      have F20 := F19.same sz
      have ht20 := sz _ _ ht19
      generalize upd H19 z (.lst [V.int 0]) = H20 at sz z20 F20 ht20 ⊢
      refine ⟨_, rfl, _, rfl, l, t, secs, cc, rfl, F20.rn, ht20, by omega, by omega, fun H21 wd s21 hwd rn21 => ?_⟩
      have F21 := F20.same s21
      refine ⟨_, rfl, wd, a, widen secs cc, cars, rfl, rn21, F21.tp, widen_ok SO cc, CO, fun H22 lo s22 hlo => ?_⟩
      refine ⟨z, lo, [V.int 0], _, rfl, rfl, s22 _ _ (s21 _ _ z20), hlo, Nat.le_of_lt (small1000 (by rw [List.length_map]; show 1 + cars.length ≤ 1000; omega)), fun pp hpp => ?_⟩
      have s23 := s21.trans (s22.trans (sameNew hpp (.lst ([V.int 0] ++ cars.map fun c => V.int (lossOf (widen secs cc) cars c)))))
      have hp23 : upd H22 pp (.lst ([V.int 0] ++ cars.map fun c => V.int (lossOf (widen secs cc) cars c))) pp = some (.lst (((0 : Int) :: cars.map (lossOf (widen secs cc) cars)).map V.int)) := by
        rw [upd_same, List.map_cons, List.map_map]
        rfl
      generalize upd H22 pp (.lst ([V.int 0] ++ cars.map fun c => V.int (lossOf (widen secs cc) cars c))) = H23 at s23 hp23 ⊢
      refine ⟨pp, (0 : Int) :: cars.map (lossOf (widen secs cc) cars), rfl, SqL.of hp23, by simp, fun M0 hM hle => ?_⟩
      have s23' := sz.trans s23
      have B23 := B19.ext (ExtN.same s23')
      have S23 := S19.same s23'
      have t23 := s23' _ _ t1
      have ht23 := s23' _ _ ht19
      have s23'' := s19.trans s23'
      refine ⟨_, rfl, _, _, rfl, rfl, _, rfl, ?_⟩
      rw [most_loser m0 hM hle]
      have en : ((subsD nar).take (i + 1)).filter (fun d => decide (loser (widen secs d) cars m = none)) = ((subsD nar).take i).filter (fun d => decide (loser (widen secs d) cars m = none)) ++ if decide (loser (widen secs cc) cars m = none) = true then [cc] else [] := by
        rw [List.take_add_one, hc, List.filter_append]
        by_cases g : loser (widen secs cc) cars m = none <;> simp [g]
      have lb := List.length_filter_le (fun d => decide (loser (widen secs d) cars m = none)) ((subsD nar).take i)
      rw [List.length_take] at lb
      rw [en]
      generalize ((subsD nar).take i).filter (fun d => decide (loser (widen secs d) cars m = none)) = gs at B23 lb
      cases hg : decide (loser (widen secs cc) cars m = none) with
      | false =>
        refine iteF ⟨_, _, _, rfl, s23'', t23, S23, ?_⟩
        rw [if_neg (by decide), List.append_nil]
        exact B23
      | true =>
        refine iteT ?_
        rw [if_pos rfl]
        obtain ⟨bs, bs1, bs2, _⟩ := id B23
        refine ⟨_, rfl, .inl ⟨rfl, _, SqL.of bs1⟩, _, rfl, t, _, rfl, .inl (SqL.of ht23), _, rfl, by show 2 ≤ sizeLine; decide, fun x hx => ?_⟩
        rw [natV_len]
        obtain ⟨xs, y1, y2, y3⟩ := B23.push hx ht23 tb
        have sx := sameNew hx (.tup [V.int ((cc.length : Nat) : Int), .ref t])
        refine ⟨b, xs, .ref x, rfl, rfl, y1, small1000 (by omega), ?_⟩
        refine ⟨_, _, _, rfl, fun u o e => ?_, by rw [upd_ne qb]; exact sx _ _ t23, (S23.same sx).updb qb, y3⟩
        rw [upd_ne (ne_of_none e hb)]
        exact sx _ _ (s23'' _ _ e)
    rintro σ H19 ⟨v2'', v11'', v12', rfl, s19, y1, y2, B19⟩
    rw [List.length_map, t2, List.take_length] at B19
    have F19 := F15.same s19
    clear y1 y2 F15 s19 s18' B18 S18 t1 t3 t2 ts D15 hb Db qb H18 H15 v2' v11'
    -- the fewest
    refine ⟨_, rfl, _, rfl, _, rfl, .inl ⟨p, tq, secs, cars, m, rfl, F19.rc.rd, F19.rc.ct, SO, CO, F19.rc.tb, m0, m1, by omega, fun H20 fl cc e20 T20 hfl nl fw => ?_⟩⟩
    have B20 := B19.ext e20
    have F20 := F19.ext e20 T20
    have fb := few_best fw
    rw [hnar] at fb
    obtain ⟨ts, t1, t2, t3⟩ := B20
    refine ⟨_, rfl, b, ts, _, rfl, SqL.of t1, t2, by have := (List.getElem?_eq_some_iff.mp fb).1; omega, fun i t c e1 e2 => let ⟨l0, z1, z2, _⟩ := t3 i t c e1 e2; ⟨l0, z1, z2⟩, fun t ht => ?_⟩
    obtain ⟨l0, z1, z2, _⟩ := t3 _ t cc ht fb
    refine ⟨t, _, _, _, rfl, rfl, SqT.of z1, rfl, ?_⟩
    refine .inl (.inr (like_ints hfl z2 (by have := nl.2; omega) fun H21 s21 => ⟨true, rfl, iteF ?_⟩))
    have F21 := F20.same s21
    clear F19 B19 fb t1 t2 t3 z1 z2 F20 s21 hfl nl fw e20 T20 hnar nl5 c18 l18
    -- two sections
    obtain ⟨us, u1, u2, u3⟩ := id F21.rn
    have hus : (us.map V.ref).length = secs.length := by rw [List.length_map, u2]
    refine ⟨_, rfl, _, rfl, l, _, rfl, .inl (SqL.of u1), ?_⟩
    rw [hus]
    refine ⟨r, sc, ns, secs.length, rfl, by omega, by omega, F21.row, fun H22 one k22 R22 h1 => ?_⟩
    have F22 := F21.keep k22 R22
    clear F21 k22 R22 u1 u3 us u2 hus
    obtain ⟨us, u1, u2, u3⟩ := id F22.rn
    have hus : (us.map V.ref).length = secs.length := by rw [List.length_map, u2]
    refine ⟨_, rfl, _, rfl, l, _, rfl, .inl (SqL.of u1), ?_⟩
    rw [hus]
    refine ⟨r, sc, ns, secs.length, rfl, by omega, by omega, F22.row, fun H23 two k23 R23 h2 => ?_⟩
    have F23 := F22.keep k23 R23
    clear F22 k23 R23 u1 u3 us u2 hus
    refine ⟨_, _, rfl, ?_⟩
    refine ⟨_, rfl, _, rfl, _, rfl, by show 2 ≤ sizeLine; decide, fun x hx => ?_⟩
    have sx := sameNew hx (.lst [V.int ((one : Nat) : Int), V.int ((two : Nat) : Int)])
    have hxl : upd H23 x (.lst [V.int ((one : Nat) : Int), V.int ((two : Nat) : Int)]) x = some (.lst (natV [one, two])) := upd_same
    have F24 := F23.same sx
    clear F23 sx hx
    generalize upd H23 x (.lst [V.int ((one : Nat) : Int), V.int ((two : Nat) : Int)]) = H24 at F24 hxl ⊢
    refine ⟨l, x, secs, [one, two], rfl, F24.rn, hxl, by show 2 ≤ 1000; decide, by omega, fun H25 wd s25 hwd rn25 => ?_⟩
    have F25 := F24.same s25
    refine ⟨_, rfl, wd, a, widen secs [one, two], cars, rfl, rn25, F25.tp, widen_ok SO _, CO, fun H26 lo s26 hlo => ?_⟩
    have F26 := F25.same s26
    clear F24 F25 s25 s26 hxl rn25 hwd
    -- the first loser
    obtain ⟨ts, t1, t2, t3⟩ := id F26.tp
    rw [List.length_map] at t2
    have hts : (ts.map V.ref).length = cars.length := by rw [List.length_map, t2]
    refine ⟨_, rfl, a, _, rfl, .inl (SqL.of t1), ?_⟩
    rw [hts]
    refine ⟨_, rfl, by omega, by omega, fun D hD => ?_⟩
    rw [Int.toNat_natCast]
    refine lc_it walk_range (fun i H1 => Same H26 H1 ∧ H1 D = some (.lst ((loseL (widen secs [one, two]) cars m i).map V.str))) ⟨sameNew hD _, upd_same⟩ (fun _ _ _ _ => True.intro) ?_ ?_
    · rintro i z Hz H27 hi ⟨k1, d1⟩ ⟨e, ez⟩
      have ez : z = V.int ((i : Nat) : Int) := by
        rw [ez]
        show V.int (0 + ((i : Nat) : Int)) = _
        rw [Int.zero_add]
      subst e ez
      obtain ⟨t, ht⟩ : ∃ t, ts[i]? = some t := ⟨_, List.getElem?_eq_getElem (by omega)⟩
      obtain ⟨cr, hc⟩ : ∃ cr, cars[i]? = some cr := ⟨_, List.getElem?_eq_getElem hi⟩
      have hct := k1 _ _ (t3 i t cr.vs ht (by rw [List.getElem?_map, hc]; rfl))
      have hlv : (cars.map fun c => V.int (lossOf (widen secs [one, two]) cars c))[i]? = some (V.int (lossOf (widen secs [one, two]) cars cr)) := by rw [List.getElem?_map, hc]; rfl
      have en : loseL (widen secs [one, two]) cars m (i + 1) = loseL (widen secs [one, two]) cars m i ++ if m < lossOf (widen secs [one, two]) cars cr then [cr.name] else [] := by
        unfold loseL
        rw [List.take_add_one, hc, List.filter_append, List.map_append]
        by_cases g : m < lossOf (widen secs [one, two]) cars cr <;> simp [g]
      have ll : (loseL (widen secs [one, two]) cars m i).length ≤ cars.length := by
        unfold loseL
        rw [List.length_map]
        refine Nat.le_trans (List.length_filter_le _ _) ?_
        rw [List.length_take]
        exact Nat.min_le_right _ _
      rw [en]
      refine ⟨rfl, ?_⟩
      refine ⟨_, rfl, _, rfl, lo, _, _, _, rfl, rfl, SqL.of (k1 _ _ hlo), atI_nat hlv, _, rfl, _, _, rfl, rfl, _, rfl, ?_⟩
      by_cases g : m < lossOf (widen secs [one, two]) cars cr
      · rw [decide_eq_true g, if_pos g]
        refine iteT ⟨_, rfl, _, rfl, a, _, _, .ref t, rfl, rfl, SqL.of (k1 _ _ t1), atI_nat (map_at V.ref ht), t, _, _, _, rfl, rfl, SqT.of hct, rfl, _, d1, small1000 (by rw [List.length_map]; omega), fun b o e => by rw [upd_ne (ne_of_none e hD)]; exact k1 _ _ e, ?_⟩
        rw [upd_same, List.map_append]
        rfl
      · rw [decide_eq_false g, if_neg g, List.append_nil]
        exact iteF ⟨k1, d1⟩
    rintro H27 ⟨s27, D27⟩
    have F27 := F26.same s27
    clear F26 s27 hD hlo t1 t3 ts t2 hts
    refine ⟨by show 1 ≤ sizeLine; decide, fun y hy => ?_⟩
    have sy := sameNew hy (.lst [V.non])
    have ll : (loseL (widen secs [one, two]) cars m cars.length).length ≤ cars.length := by
      unfold loseL
      rw [List.length_map]
      refine Nat.le_trans (List.length_filter_le _ _) ?_
      rw [List.length_take]
      exact Nat.min_le_right _ _
    refine ⟨D, y, _, [V.non], rfl, rfl, sy _ _ D27, upd_same, Nat.le_of_lt (small1000 (by rw [List.length_map]; show _ + 1 ≤ 1000; omega)), fun z hz => ?_⟩
    have F29 := (F27.same sy).same (sameNew hz (.lst ((loseL (widen secs [one, two]) cars m cars.length).map V.str ++ [V.non])))
    have hz29 : upd (upd H27 y (.lst [V.non])) z (.lst ((loseL (widen secs [one, two]) cars m cars.length).map V.str ++ [V.non])) z = some (.lst ((loseL (widen secs [one, two]) cars m cars.length).map V.str ++ [V.non])) := upd_same
    have hd0 : ((loseL (widen secs [one, two]) cars m cars.length).map V.str ++ [V.non])[0]? = some (strO (loser (widen secs [one, two]) cars m)) := by
      unfold loser
      cases loseL (widen secs [one, two]) cars m cars.length <;> rfl
    generalize upd (upd H27 y (.lst [V.non])) z (.lst ((loseL (widen secs [one, two]) cars m cars.length).map V.str ++ [V.non])) = H29 at F29 hz29 ⊢
    clear F27 sy hy hz D27
    refine ⟨z, _, ((0 : Nat) : Int), _, rfl, rfl, SqL.of hz29, atI_nat hd0, ?_⟩
    clear hz29 hd0
    refine ⟨_, rfl, _, rfl, _, rfl, _, rfl, _, rfl, .inl ?_⟩
    refine ⟨[.ref p, .ref tq, .int m], [.int ((one : Nat) : Int), .int ((two : Nat) : Int)], rfl, rfl, by show 2 ≤ sizeLine; decide, fun t2 ht2 => ?_⟩
    have F30 := F29.same (sameNew ht2 (.tup [.int ((one : Nat) : Int), .int ((two : Nat) : Int)]))
    refine ⟨p, tq, t2, secs, cars, m, [one, two], rfl, upd_same, F30.rc.rd, F30.rc.ct, SO, CO, F30.rc.tb, m0, m1, by show 2 ≤ 1000; decide, fun i hi => by
      rcases List.mem_cons.mp hi with rfl | hi
      · exact h1
      · rw [List.mem_singleton.mp hi]
        exact h2, fun H31 e31 T31 => ?_⟩
    have F31 := F30.ext e31 T31
    clear F29 F30 ht2 e31 T31
    refine ⟨_, rfl, ?_, _, rfl, ?_⟩
    · cases loser (widen secs [one, two]) cars m <;> rfl
    rw [decide_eq_true rfl]
    refine iteF ?_
    clear hd h1 h2
    -- the harmful widenings
    refine ⟨_, rfl, _, rfl, l, a, secs, cars, rfl, F31.rn, F31.tp, SO, CO.w, fun H32 d0 s32 hd0 => ⟨by show 0 ≤ sizeLine; decide, fun y hy => ⟨by show 2 ≤ sizeLine; decide, fun tp htp => ⟨tp, _, rfl, SqT.of upd_same, rfl, _, _, rfl, _, _, rfl, rfl, ?_⟩⟩⟩⟩
    have sy := sameNew hy (.lst [])
    have st := sameNew htp (.tup [V.ref d0, V.ref y])
    have F33 := (F31.same s32).same (sy.trans st)
    have y33 := st _ _ (upd_same (H := H32) (a := y) (o := .lst []))
    have d33 := st _ _ (sy _ _ hd0)
    generalize upd (upd H32 y (.lst [])) tp (.tup [V.ref d0, V.ref y]) = H33 at F33 y33 d33 ⊢
    clear sy st hy htp F31 s32 hd0
    obtain ⟨us, u1, u2, u3⟩ := id F33.rn
    have hus : (us.map V.ref).length = secs.length := by rw [List.length_map, u2]
    refine ⟨_, rfl, l, _, rfl, .inl (SqL.of u1), ?_⟩
    rw [hus]
    refine ⟨_, rfl, by omega, by omega, ?_⟩
    rw [Int.toNat_natCast]
    refine for_it walk_range (fun i σ H => ∃ v2 v8 v9 v10 v11 v12 v13 v14 v17 q, σ = [some (.ref sc), some (.ref r), v2, some (.ref l), some (.ref a), some (.ref p), some (.ref tq), some (.int m), v8, v9, v10, v11, v12, v13, v14, some (.ref q), some (.ref d0), v17, v18, v19, v20, none] ∧ Same H33 H ∧ TupsAt H q ((harmL secs cars i).map harmV))
      ⟨_, _, _, _, _, _, _, _, _, y, rfl, Same.refl _, tups_nil y33⟩ (fun _ _ _ _ _ => True.intro) ?_ ?_
    · rintro i x σ Hz H34 hi ⟨v2', v8', v9', v10', v11', v12', v13', v14', v17', q, rfl, s34, T34⟩ ⟨e, ex⟩
      have ex : x = V.int ((i : Nat) : Int) := by
        rw [ex]
        show V.int (0 + ((i : Nat) : Int)) = _
        rw [Int.zero_add]
      subst e ex
      have F34 := F33.same s34
      refine ⟨_, rfl, _, rfl, by show 1 ≤ sizeLine; decide, fun x hx => ?_⟩
      have sx := sameNew hx (.lst [V.int ((i : Nat) : Int)])
      refine ⟨l, x, secs, [i], rfl, (F34.same sx).rn, upd_same, by show 1 ≤ 1000; decide, by omega, fun H36 wd s36 hwd rn36 => ?_⟩
      have F36 := (F34.same sx).same s36
      refine ⟨_, rfl, wd, a, widen secs [i], cars, rfl, rn36, F36.tp, widen_ok SO _, CO.w, fun H37 d1 s37 hd1 => ?_⟩
      have F37 := F36.same s37
      have s37' := sx.trans (s36.trans s37)
      have d037 := (s34.trans s37') _ _ d33
      have T37 := T34.same s37'
      have s37'' := s34.trans s37'
      clear F34 F36 sx hx s36 hwd rn36 s37 T34 s34 s37'
      obtain ⟨ts, t1, t2, t3⟩ := id F37.tp
      rw [List.length_map] at t2
      have hts : (ts.map V.ref).length = cars.length := by rw [List.length_map, t2]
      refine ⟨_, rfl, _, rfl, a, rfl, ⟨_, SqL.of t1⟩, fun D hD => ?_⟩
      refine lc_it walk_list (fun j H => Same H37 H ∧ TupsAt H D ((harmAt secs cars i j).map harmV)) ⟨sameNew hD _, tups_nil upd_same⟩ (fun j H _ ⟨k, _⟩ => SqL.of (k _ _ t1)) ?_ ?_
      · rintro j y Hz H38 hj ⟨k38, T38⟩ ⟨e, hy⟩
        subst e
        obtain ⟨t, ht, rfl⟩ : ∃ t, ts[j]? = some t ∧ y = V.ref t := by
          rw [List.getElem?_map] at hy
          obtain ⟨t, z1, z2⟩ := Option.map_eq_some_iff.mp hy
          exact ⟨t, z1, z2.symm⟩
        rw [hts] at hj
        obtain ⟨cr, hc⟩ : ∃ cr, cars[j]? = some cr := ⟨_, List.getElem?_eq_getElem hj⟩
        have hcm := List.mem_of_getElem? hc
        have hn : cr.name ∈ names cars := List.mem_map.mpr ⟨cr, hcm, rfl⟩
        have hct := k38 _ _ (t3 j t cr.vs ht (by rw [List.getElem?_map, hc]; rfl))
        have hl := harmAt_len secs cars i j
        rw [harmAt_succ hc]
        refine ⟨rfl, ?_⟩
        refine ⟨_, rfl, _, rfl, t, _, _, _, rfl, rfl, SqT.of hct, rfl, d1, _, rfl, gk (k38 _ _ hd1) (arrK_get CO.nd hn), _, rfl, _, rfl, t, _, _, _, rfl, rfl, SqT.of hct, rfl, d0, _, rfl, gk (k38 _ _ d037) (arrK_get CO.nd hn), _, _, rfl, rfl, harmP secs cars i cr, rfl, ?_⟩
        cases hh : harmP secs cars i cr with
        | false =>
          refine iteF ⟨k38, ?_⟩
          rw [if_neg (by decide), List.append_nil]
          exact T38
        | true =>
          obtain ⟨ts', z1, z2, z3⟩ := id T38
          refine iteT ⟨_, rfl, _, rfl, t, _, _, _, rfl, rfl, SqT.of hct, rfl, by show 2 ≤ sizeLine; decide, fun x hx => ?_⟩
          have sx := sameNew hx (.tup [V.int ((i : Nat) : Int), V.str cr.name])
          refine ⟨_, sx _ _ z1, small1000 (by rw [List.length_map, z2, List.length_map]; omega), fun b o e => by rw [upd_ne (ne_of_none e hD)]; exact sx _ _ (k38 _ _ e), ?_⟩
          rw [if_pos rfl, List.map_append]
          exact tups_push z1 z2 z3 hx [V.int ((i : Nat) : Int), V.str cr.name]
      · rintro H38 ⟨k38, T38⟩
        rw [hts] at T38
        obtain ⟨xs, ys, x1, x2, x3, x4, x5⟩ := tups_cat (T37.same k38) T38
        have l1 := harmL_len secs cars i
        have l2 := harmAt_len secs cars i cars.length
        have l3 : i * cars.length ≤ 12 * 10 := Nat.mul_le_mul (by omega) h10
        rw [List.length_map] at x3 x4
        refine ⟨q, D, xs, ys, rfl, rfl, x1, x2, Nat.le_of_lt (small1000 (by omega)), fun d hd => ?_⟩
        refine ⟨_, _, _, _, _, _, _, _, _, d, rfl, s37''.trans (k38.trans (sameNew hd _)), ?_⟩
        rw [harmL_succ, List.map_append]
        exact x5 d hd
    rintro σ H34 ⟨v2', v8', v9', v10', v11', v12', v13', v14', v17', q, rfl, s34, T34⟩
    have F34 := F33.same s34
    clear F33 s34 y33 d33 u1 u3 us u2 hus
    refine ⟨_, rfl, _, rfl, p, tq, secs, cars, rfl, F34.rc.rd, F34.rc.ct, SO, CO, F34.rc.tb, fun H35 hl e35 T35 nl tt => ?_⟩
    refine ⟨_, rfl, like_harm tt (T34.ext e35) nok h10 h12 fun H36 s36 => ⟨true, rfl, iteF ?_⟩⟩
    have F36 := (F34.ext e35 T35).same s36
    clear F34 e35 T35 nl tt s36 T34
    -- an invalid loss
    refine ⟨_, rfl, _, rfl, _, _, rfl, rfl, ⟨by decide, by decide, by decide⟩, _, _, rfl, rfl, by show 4 ≤ sizeLine; decide, fun ql hq => ?_⟩
    have s37 := sameNew hq (.lst [V.int (-1), V.int ((10 : Int) ^ (6 : Int).toNat + 1), V.non, V.bl true])
    have hql : upd H36 ql (.lst [V.int (-1), V.int ((10 : Int) ^ (6 : Int).toNat + 1), V.non, V.bl true]) ql = some (.lst [V.int (-1), V.int ((10 : Int) ^ (6 : Int).toNat + 1), V.non, V.bl true]) := upd_same
    have nqr : ql ≠ r := (ne_of_none F36.row.lst.choose_spec hq).symm
    have F37 := F36.same s37
    refine ⟨r, sc, ns, ql, _, rfl, hql, by decide, by decide, nqr, F37.row, fun H38 qi v k38 R38 hv => ?_⟩
    have F38 := F37.keep k38 R38
    clear F36 F37 k38 R38 hql nqr s37 hq
    obtain ⟨hpl, hnb⟩ : Plain v ∧ numB v 0 1000000 = false := by
      match qi, hv with
      | 0, hv => obtain rfl := Option.some.inj hv; exact ⟨.inl ⟨_, rfl⟩, by decide⟩
      | 1, hv => obtain rfl := Option.some.inj hv; exact ⟨.inl ⟨_, rfl⟩, by decide⟩
      | 2, hv => obtain rfl := Option.some.inj hv; exact ⟨.inr (.inl rfl), rfl⟩
      | 3, hv => obtain rfl := Option.some.inj hv; exact ⟨.inr (.inr (.inl ⟨_, rfl⟩)), rfl⟩
    clear hv
    refine ⟨F38.rc.tb, fun H39 f1 e39 T39 w1 => ⟨T39, fun H40 f2 e40 T40 w2 => ⟨by show 2 ≤ sizeLine; decide, fun wk hwk => ?_⟩⟩⟩
    have swk := sameNew hwk (.lst [V.ref f1, V.ref f2])
    have hw41 : upd H40 wk (.lst [V.ref f1, V.ref f2]) wk = some (.lst [V.ref f1, V.ref f2]) := upd_same
    have F41 := ((F38.ext e39 T39).ext e40 T40).same swk
    have w1 := w1.ext (e40.trans (ExtN.same swk))
    have w2 := w2.ext (ExtN.same swk)
    clear F38 e39 T39 e40 T40
    generalize upd H40 wk (.lst [V.ref f1, V.ref f2]) = H41 at swk hw41 F41 w1 w2 ⊢
    clear swk hwk
    -- what is told
    refine ⟨_, rfl, wk, rfl, ⟨_, SqL.of hw41⟩, fun D hD => ?_⟩
    refine lc_it walk_list (fun i H1 => ExtN H41 H1 ∧ Tabs T H1 ∧ TupsAt H1 D (List.replicate i [V.str "error", V.str "InvalidNumber"])) ⟨ExtN.same (sameNew hD _), F41.rc.tb.ext (sameNew hD _), tups_nil upd_same⟩ (fun i H1 _ ⟨k, _⟩ => SqL.of (ExtN.lst k hw41)) ?_ ?_
    · rintro i y Hz H42 hi ⟨e42, T42, U42⟩ ⟨e, hy⟩
      subst e
      have F42 := F41.ext e42 T42
      have push : ∀ (H43 H44 : Hp) (tp : Addr), ExtN H42 H43 → Tabs T H43 → Same H43 H44 → H44 tp = some (.tup (toldV 4 .non)) → ∃ acc, H44 D = some (.lst acc) ∧ acc.length < sizeLine ∧ (ExtN H41 (upd H44 D (.lst (acc ++ [.ref tp]))) ∧ Tabs T (upd H44 D (.lst (acc ++ [.ref tp]))) ∧ TupsAt (upd H44 D (.lst (acc ++ [.ref tp]))) D (List.replicate (i + 1) [V.str "error", V.str "InvalidNumber"])) := fun H43 H44 tp e43 T43 s44 htp => by
        obtain ⟨xs, y1, y2, y3⟩ := tups_snoc ((U42.ext e43).ext (ExtN.same s44)) htp
        have hi2 : i < 2 := hi
        rw [List.length_replicate] at y2
        refine ⟨xs, y1, small1000 (by omega), fun b o e n => ?_, Tabs.keepL (T43.ext s44) fun b o e n => by rw [upd_ne (ne_of e y1 (n _))]; exact e, ?_⟩
        · rw [upd_ne (ne_of_none e hD)]
          exact s44 _ _ (e43 _ _ (e42 _ _ e n) n)
        · rw [List.replicate_succ']
          exact y3
      refine ⟨rfl, yes_of ?_⟩
      match i, hi, hy, push with
      | 0, hi, hy, push =>
        obtain rfl := Option.some.inj hy
        refine ⟨_, rfl, f1, _, fun E => tCall (spFewX CR CN T) [] E (tCons (tVar 5) (tCons (tVar 6) (tCons (tVar 18) tNil))), rfl, ?_, ?_, ?_, w1.ext e42, ?_⟩
        · exact lamS2_by (N := nLaw) (sc := defScope sLaw) (by decide +kernel)
        · exact fun _ _ _ _ _ _ => rfl
        · exact fun A' outer' s' H' E' f' c' hr' => pe_call GFe hr' (by rfl) BFe.at_ BFe.fn.kp BFe.bd .nil (passes_call (takes_of rfl rfl rfl rfl) fun _ _ _ _ h => h) (pa_cons (pv 5) (pa_cons (pv 6) (pa_cons (pv 18) pa_nil)))
        refine ⟨_, rfl, _, rfl, _, rfl, .inr ⟨p, tq, secs, cars, v, rfl, F42.rc.rd, F42.rc.ct, SO, CO, hpl, by omega, hnb, fun H43 s43 => ?_⟩⟩
        exact ⟨CN, 4, .non, rfl, J4, by decide, .inl rfl, .inl rfl, fun H44 tp s44 htp => push H43 H44 tp (ExtN.same s43) (T42.ext s43) s44 htp⟩
      | 1, hi, hy, push =>
        obtain rfl := Option.some.inj hy
        refine ⟨_, rfl, f2, _, fun E => fun σ H Q => (tCons (tVar 5) (tCons (tVar 6) (tCons (tVar 18) (tCons (tC (.int 99)) tNil)))) σ H fun vs H1 => spFLX CR CS CN T vs H1 Q E, rfl, ?_, ?_, ?_, w2.ext e42, ?_⟩
        · exact lamS2_by (N := nLaw) (sc := defScope sLaw) (by decide +kernel)
        · exact fun _ _ _ _ _ _ _ => ⟨_, rfl, fun _ => rfl⟩
        · exact fun A' outer' s' H' E' f' c' hr' => pe_callR GFl (hr'.mono (by decide)) kFl (by rfl) aFl (passes_call (takes_of rfl rfl rfl rfl) fun _ _ _ _ h => h) (pa_cons (pv 5) (pa_cons (pv 6) (pa_cons (pv 18) (pa_cons pe_int pa_nil))))
        refine ⟨_, rfl, _, rfl, _, rfl, .inr ⟨[.ref p, .ref tq, v], [.int 99], rfl, rfl, by show 1 ≤ sizeLine; decide, fun t2 ht2 => ?_⟩⟩
        have s42 := sameNew ht2 (.tup [V.int 99])
        have F43 := F42.same s42
        refine ⟨p, tq, t2, secs, cars, v, [.int 99], rfl, upd_same, F43.rc.rd, F43.rc.ct, SO, CO, hpl, .inl ⟨hnb, fun H44 s44 => ?_⟩⟩
        exact ⟨CN, 4, .non, rfl, J4, by decide, .inl rfl, .inl rfl, fun H45 tp s45 htp => push _ H45 tp (ExtN.same (s42.trans s44)) (T42.ext (s42.trans s44)) s45 htp⟩
    rintro H42 ⟨e42, T42, ts, t1, t2, t3⟩
    have F42 := F41.ext e42 T42
    clear F41 e42 T42 w1 w2 hw41 hD
    have t2 : ts.length = 2 := t2
    obtain ⟨a1, a2, rfl⟩ : ∃ a1 a2, ts = [a1, a2] := by
      match ts, t2 with
      | [a1, a2], _ => exact ⟨a1, a2, rfl⟩
    have b1 := t3 0 a1 _ rfl rfl
    have b2 := t3 1 a2 _ rfl rfl
    clear t2 t3
    refine ⟨by show 2 ≤ sizeLine; decide, fun y1 hy1 => ⟨by show 1 ≤ sizeLine; decide, fun y2 hy2 => ⟨y2, 2, [.ref y1], rfl, rfl, upd_same, by decide, by decide, by show 1 * 2 ≤ sizeLine; decide, fun y3 hy3 => ?_⟩⟩⟩
    have z1 := sameNew hy1 (.tup [V.str "error", V.str "InvalidNumber"])
    have z2 := sameNew hy2 (.lst [V.ref y1])
    have z3 := sameNew hy3 (.lst (List.replicate (2 : Int).toNat [V.ref y1]).flatten)
    have z23 := z2.trans z3
    have z123 := z1.trans z23
    have y1' := z23 _ _ (upd_same (H := H42) (a := y1) (o := .tup [V.str "error", V.str "InvalidNumber"]))
    have y3' : upd (upd (upd H42 y1 (.tup [V.str "error", V.str "InvalidNumber"])) y2 (.lst [V.ref y1])) y3 (.lst (List.replicate (2 : Int).toNat [V.ref y1]).flatten) y3 = some (.lst [V.ref y1, V.ref y1]) := upd_same
    have t1' := z123 _ _ t1
    have b1' := z123 _ _ b1
    have b2' := z123 _ _ b2
    have F43 := F42.same z123
    generalize upd (upd (upd H42 y1 (.tup [V.str "error", V.str "InvalidNumber"])) y2 (.lst [V.ref y1])) y3 (.lst (List.replicate (2 : Int).toNat [V.ref y1]).flatten) = H43 at y1' y3' t1' b1' b2' F43 ⊢
    clear z1 z2 z3 z23 z123 F42 t1 b1 b2 hy1 hy2 hy3
    have dt : ∀ {a : Addr}, H43 a = some (.tup [V.str "error", V.str "InvalidNumber"]) → Dp K H43 (.ref a) (.tuple [.str "error", .str "InvalidNumber"]) := fun h => .tup (SqT.of h) (.cons (.str _) (.cons (.str _) .nil))
    refine ⟨.list [.tuple [.str "error", .str "InvalidNumber"], .tuple [.str "error", .str "InvalidNumber"]], .list [.tuple [.str "error", .str "InvalidNumber"], .tuple [.str "error", .str "InvalidNumber"]], .lst (SqL.of t1') (.cons (dt b1') (.cons (dt b2') .nil)), .lst (SqL.of y3') (.cons (dt y1') (.cons (dt y1') .nil)), by decide +kernel, by decide +kernel, _, rfl, ?_⟩
    rw [show (!PyData.eqv (.list [.tuple [.str "error", .str "InvalidNumber"], .tuple [.str "error", .str "InvalidNumber"]]) (.list [.tuple [.str "error", .str "InvalidNumber"], .tuple [.str "error", .str "InvalidNumber"]])) = false by decide +kernel]
    refine iteF ?_
    clear dt t1' b1' b2' y1' y3'
    -- a section beyond
    obtain ⟨us, u1, u2, u3⟩ := id F43.rn
    have hus : (us.map V.ref).length = secs.length := by rw [List.length_map, u2]
    refine ⟨_, rfl, l, _, rfl, .inl (SqL.of u1), ?_⟩
    rw [hus]
    refine ⟨F43.rc.tb, fun H44 fl e44 T44 hlam => ?_⟩
    have F44 := F43.ext e44 T44
    clear F43 e44 T44 u1 u3 us u2 hus
    refine ⟨fl, _, fun E => fun σ H Q => (tCons (tVar 5) (tCons (tVar 6) (tCons (tC (.int 0)) (tCons (tC (.int 0)) (tCons (tVar 20) tNil))))) σ H fun vs H1 => spFLX CR CS CN T vs H1 Q E, rfl, ?_, ?_, ?_, hlam, ?_⟩
    · exact lamS2_by (N := nLaw) (sc := defScope sLaw) (by decide +kernel)
    · exact fun _ _ _ _ _ _ _ => ⟨_, rfl, fun _ => rfl⟩
    · exact fun A' outer' s' H' E' f' c' hr' => pe_callR GFl (hr'.mono (by decide)) kFl (by rfl) aFl (passes_call (takes_of rfl rfl rfl rfl) fun _ _ _ _ h => h) (pa_cons (pv 5) (pa_cons (pv 6) (pa_cons pe_int (pa_cons pe_int (pa_cons (pv 20) pa_nil)))))
    refine ⟨_, rfl, _, rfl, _, rfl, .inr ⟨[.ref p, .ref tq, .int 0], [.int 0, .int ((secs.length : Nat) : Int)], rfl, rfl, by show 2 ≤ sizeLine; decide, fun t2 ht2 => ?_⟩⟩
    have s45 := sameNew ht2 (.tup [V.int 0, V.int ((secs.length : Nat) : Int)])
    have F45 := F44.same s45
    refine ⟨p, tq, t2, secs, cars, .int 0, [.int 0, .int ((secs.length : Nat) : Int)], rfl, upd_same, F45.rc.rd, F45.rc.ct, SO, CO, .inl ⟨_, rfl⟩, .inr ⟨0, [0, secs.length], 1, secs.length, rfl, by decide, by decide, rfl, by show 2 ≤ 1000; decide, rfl, Nat.le_refl _, fun i mm hi hmm => ?_, fun H46 d fs s46 hd hfl => ?_⟩⟩
    · obtain rfl : i = 0 := by omega
      obtain rfl : 0 = mm := Option.some.inj hmm
      exact l1
    refine ⟨CS, 2, .int ((secs.length : Nat) : Int), rfl, J2, by decide, .inr ⟨d, fs, rfl, hd⟩, .inr ⟨d, fs, rfl, hd, hfl⟩, fun H47 tp s47 htp => ?_⟩
    have F47 := (F45.same s46).same s47
    refine ⟨_, rfl, by show 3 ≤ sizeLine; decide, fun t3 ht3 => ?_⟩
    have s48 := sameNew ht3 (.tup [V.str "error", V.str "UnknownSection", V.int ((secs.length : Nat) : Int)])
    have shU : Shp 1 (.tuple [.str "error", .str "UnknownSection", .int ((secs.length : Nat) : Int)]) := shp_tuple fun d hd => by
      rcases List.mem_cons.mp hd with rfl | hd
      · exact shp_str (by decide +kernel)
      rcases List.mem_cons.mp hd with rfl | hd
      · exact shp_str (by decide +kernel)
      rw [List.mem_singleton.mp hd]
      exact shp_int _
    refine ⟨.tuple [.str "error", .str "UnknownSection", .int ((secs.length : Nat) : Int)], .tuple [.str "error", .str "UnknownSection", .int ((secs.length : Nat) : Int)], .tup (SqT.of (s48 _ _ htp)) (.cons (.str _) (.cons (.str _) (.cons (.int _) .nil))), .tup (SqT.of upd_same) (.cons (.str _) (.cons (.str _) (.cons (.int _) .nil))), ?_, ?_, _, rfl, ?_⟩
    · exact shU.ok (by decide)
    · exact shU.ok (by decide)
    rw [show (!PyData.eqv (.tuple [.str "error", .str "UnknownSection", .int ((secs.length : Nat) : Int)]) (.tuple [.str "error", .str "UnknownSection", .int ((secs.length : Nat) : Int)])) = false by rw [shU.same]; rfl]
    exact iteF ⟨_, _, _, _, _, _, _, _, _, _, _, _, _, _, _, _, _, _, _, rfl, (F47.same s48).row, (F47.same s48).rc.tb⟩
end
end Sl

set_option Elab.async false
set_option linter.all false
set_option maxRecDepth 100000
set_option maxHeartbeats 4000000
namespace Sl
open PySem PySem.Spec L2 OwnR LamX
theorem tabS0 {H : Hp} {P : Addr} {q : Str} (h : H P = some (.tbl #[])) : TabS H P q := ⟨#[], h, by first | exact trivial | simp [PySem.W.TriplesOk] | decide, fun pos cv e => by first | cases e | simp [codeAmong] at e⟩
theorem all_mk {l : PySem.W.OpenLaw} {w : World} {K : PySem.W.Frag} {h : Heap} {mg : Str → Option Value} {fa C CR : Addr} (X : K.In h) (G : h.Ns mainGlobals mg) (hfa : mg "law" = some (.ref fa))
    {fin : Addr} {odin anin : Option Addr} {slin : Array (Option Value)} {ocin kVin dcin pmin ctin : Value} {cdin : Value}
    {fnm : Addr} {odnm annm : Option Addr} {slnm : Array (Option Value)} {ocnm kVnm dcnm pmnm ctnm : Value} {cdnm : Value}
    {fic : Addr} {odic anic : Option Addr} {slic : Array (Option Value)} {ocic kVic dcic pmic ctic : Value} {cdic : Value}
    {fcc : Addr} {odcc ancc : Option Addr} {slcc : Array (Option Value)} {occc kVcc dccc pmcc ctcc : Value} {cdcc : Value}
    {ccio Pio : Addr}
    {fio : Addr} {odio anio : Option Addr} {slio : Array (Option Value)} {ocio kVio dcio pmio ctio : Value}
    {ffo : Addr} {odfo anfo : Option Addr} {slfo : Array (Option Value)} {ocfo kVfo dcfo pmfo ctfo : Value} {cdfo : Value}
    {fdv : Addr} {oddv andv : Option Addr} {sldv : Array (Option Value)} {ocdv kVdv dcdv pmdv ctdv : Value} {cddv : Value}
    {fis : Addr} {odis anis : Option Addr} {slis : Array (Option Value)} {ocis kVis dcis pmis ctis : Value} {cdis : Value}
    {fuo : Addr} {oduo anuo : Option Addr} {sluo : Array (Option Value)} {ocuo kVuo dcuo pmuo ctuo : Value} {cduo : Value}
    {ffl : Addr} {odfl anfl : Option Addr} {slfl : Array (Option Value)} {ocfl kVfl dcfl pmfl ctfl : Value} {cdfl : Value}
    {ffw : Addr} {odfw anfw : Option Addr} {slfw : Array (Option Value)} {ocfw kVfw dcfw pmfw ctfw : Value} {cdfw : Value}
    {fhw : Addr} {odhw anhw : Option Addr} {slhw : Array (Option Value)} {ochw kVhw dchw pmhw cthw : Value} {cdhw : Value}
    {fdi : Addr} {oddi andi : Option Addr} {sldi : Array (Option Value)} {ocdi kVdi dcdi pmdi ctdi : Value} {cddi : Value}
    {fne : Addr} {odne anne : Option Addr} {slne : Array (Option Value)} {ocne kVne dcne pmne ctne : Value} {cdne : Value}
    {fli : Addr} {odli anli : Option Addr} {slli : Array (Option Value)} {ocli kVli dcli pmli ctli : Value} {cdli : Value}
    {fpi : Addr} {odpi anpi : Option Addr} {slpi : Array (Option Value)} {ocpi kVpi dcpi pmpi ctpi : Value} {cdpi : Value}
    {fto : Addr} {odto anto : Option Addr} {slto : Array (Option Value)} {octo kVto dcto pmto ctto : Value} {cdto : Value}
    {fpa : Addr} {odpa anpa : Option Addr} {slpa : Array (Option Value)} {ocpa kVpa dcpa pmpa ctpa : Value} {cdpa : Value}
    {fma : Addr} {odma anma : Option Addr} {slma : Array (Option Value)} {ocma kVma dcma pmma ctma : Value} {cdma : Value}
    {fca : Addr} {odca anca : Option Addr} {slca : Array (Option Value)} {occa kVca dcca pmca ctca : Value} {cdca : Value}
    {fse : Addr} {odse anse : Option Addr} {slse : Array (Option Value)} {ocse kVse dcse pmse ctse : Value} {cdse : Value}
    {fdr : Addr} {oddr andr : Option Addr} {sldr : Array (Option Value)} {ocdr kVdr dcdr pmdr ctdr : Value} {cddr : Value}
    {far : Addr} {odar anar : Option Addr} {slar : Array (Option Value)} {ocar kVar dcar pmar ctar : Value} {cdar : Value}
    {fwi : Addr} {odwi anwi : Option Addr} {slwi : Array (Option Value)} {ocwi kVwi dcwi pmwi ctwi : Value} {cdwi : Value}
    {flo : Addr} {odlo anlo : Option Addr} {sllo : Array (Option Value)} {oclo kVlo dclo pmlo ctlo : Value} {cdlo : Value}
    {ccla Pla : Addr}
    {fla : Addr} {odla anla : Option Addr} {slla : Array (Option Value)} {ocla kVla dcla pmla ctla : Value}
    {fDi : Addr} {odDi anDi : Option Addr} {slDi : Array (Option Value)} {ocDi kVDi dcDi pmDi ctDi : Value} {cdDi : Value}
    {fDc : Addr} {odDc anDc : Option Addr} {slDc : Array (Option Value)} {ocDc kVDc dcDc pmDc ctDc : Value} {cdDc : Value}
    {fDp : Addr} {odDp anDp : Option Addr} {slDp : Array (Option Value)} {ocDp kVDp dcDp pmDp ctDp : Value} {cdDp : Value}
    {Td : Addr} {odT : Option Addr} {ocT : Value} {slT : Array (Option Value)} {nT : Nat}
    {fDa : Addr} {odDa anDa : Option Addr} {slDa : Array (Option Value)} {ocDa kVDa dcDa pmDa ctDa : Value} {cdDa : Value}
    {fDh : Addr} {odDh anDh : Option Addr} {slDh : Array (Option Value)} {ocDh kVDh dcDh pmDh ctDh : Value} {cdDh : Value}
    {fDx : Addr} {odDx anDx : Option Addr} {slDx : Array (Option Value)} {ocDx kVDx dcDx pmDx ctDx : Value} {cdDx : Value}
    {fRi : Addr} {odRi anRi : Option Addr} {slRi : Array (Option Value)} {ocRi kVRi dcRi pmRi ctRi : Value} {cdRi : Value}
    {fRa : Addr} {odRa anRa : Option Addr} {slRa : Array (Option Value)} {ocRa kVRa dcRa pmRa ctRa : Value} {cdRa : Value}
    {fRw : Addr} {odRw anRw : Option Addr} {slRw : Array (Option Value)} {ocRw kVRw dcRw pmRw ctRw : Value} {cdRw : Value}
    {pRs : Addr} {rRsL : List Value}
    {fRs : Addr} {odRs anRs : Option Addr} {slRs : Array (Option Value)} {ocRs kVRs dcRs pmRs ctRs : Value} {cdRs : Value}
    {CE c0 c1 CS c3 CN : Addr} {nmS qS : Str} {NS : Addr} {bsS : List Value} {snS : List Str} {subS : List Value} {abS : Bool} {colS : Option Bool} {ddS : Option Addr} {u0 u1 u2 u3 u5 : Option Value} {fSi : Addr} {odSi anSi : Option Addr} {slSi : Array (Option Value)} {ocSi kVSi dcSi pmSi cdSi ctSi : Value}
    {t0 t1 t2 t3 t4 t5 t6 : Tok} {lp kp : Addr}
    (aC : PySem.W.nsIn K mainGlobals "Drive" = some (some (.ref C)))
    (aR : PySem.W.nsIn K mainGlobals "Road" = some (some (.ref CR)))
    (ain : PySem.W.nsIn K mainGlobals "is_number" = some (some (.ref fin)))
    (lin : K.lookup fin = some ⟨ocin, odin, .func (PySem.W.fnOf "is_number" "is_number" (defArgs sIsNumber) (defBody sIsNumber) (defScope sIsNumber) .none kVin dcin pmin anin cdin ctin), slin⟩)
    (cin : PySem.W.codeIn K cdin "is_number" = true)
    (kin : PySem.W.keepIn K (.ref fin) = true)
    (anm : PySem.W.nsIn K mainGlobals "is_name" = some (some (.ref fnm)))
    (lnm : K.lookup fnm = some ⟨ocnm, odnm, .func (PySem.W.fnOf "is_name" "is_name" (defArgs sIsName) (defBody sIsName) (defScope sIsName) .none kVnm dcnm pmnm annm cdnm ctnm), slnm⟩)
    (cnm : PySem.W.codeIn K cdnm "is_name" = true)
    (knm : PySem.W.keepIn K (.ref fnm) = true)
    (aic : PySem.W.nsIn K mainGlobals "is_car" = some (some (.ref fic)))
    (lic : K.lookup fic = some ⟨ocic, odic, .func (PySem.W.fnOf "is_car" "is_car" (defArgs sIsCar) (defBody sIsCar) (defScope sIsCar) .none kVic dcic pmic anic cdic ctic), slic⟩)
    (cic : PySem.W.codeIn K cdic "is_car" = true)
    (kic : PySem.W.keepIn K (.ref fic) = true)
    (acc : PySem.W.nsIn K mainGlobals "check_cars" = some (some (.ref fcc)))
    (lcc : K.lookup fcc = some ⟨occc, odcc, .func (PySem.W.fnOf "check_cars" "check_cars" (defArgs sCheckCars) (defBody sCheckCars) (defScope sCheckCars) .none kVcc dccc pmcc ancc cdcc ctcc), slcc⟩)
    (ccc : PySem.W.codeIn K cdcc "check_cars" = true)
    (kcc : PySem.W.keepIn K (.ref fcc) = true)
    (aio : PySem.W.nsIn K mainGlobals "_in_order" = some (some (.ref fio)))
    (lio : K.lookup fio = some ⟨ocio, odio, .func (PySem.W.fnOf "_in_order" "_in_order" (defArgs sInOrder) (defBody sInOrder) (defScope sInOrder) .none kVio dcio pmio anio (.ref ccio) ctio), slio⟩)
    (cio : PySem.W.codeIn K (.ref ccio) "_in_order" = true)
    (kio : PySem.W.keepIn K (.ref fio) = true)
    (hio : PySem.W.codeHdIn K ccio Pio = true)
    (nio : K.lookup Pio = none)
    (afo : PySem.W.nsIn K mainGlobals "_follow" = some (some (.ref ffo)))
    (lfo : K.lookup ffo = some ⟨ocfo, odfo, .func (PySem.W.fnOf "_follow" "_follow" (defArgs sFollow) (defBody sFollow) (defScope sFollow) .none kVfo dcfo pmfo anfo cdfo ctfo), slfo⟩)
    (cfo : PySem.W.codeIn K cdfo "_follow" = true)
    (kfo : PySem.W.keepIn K (.ref ffo) = true)
    (adv : PySem.W.nsIn K mainGlobals "drive_all" = some (some (.ref fdv)))
    (ldv : K.lookup fdv = some ⟨ocdv, oddv, .func (PySem.W.fnOf "drive_all" "drive_all" (defArgs sDriveAll) (defBody sDriveAll) (defScope sDriveAll) .none kVdv dcdv pmdv andv cddv ctdv), sldv⟩)
    (cdv : PySem.W.codeIn K cddv "drive_all" = true)
    (kdv : PySem.W.keepIn K (.ref fdv) = true)
    (ais : PySem.W.nsIn K mainGlobals "_is_section" = some (some (.ref fis)))
    (lis : K.lookup fis = some ⟨ocis, odis, .func (PySem.W.fnOf "_is_section" "_is_section" (defArgs sIsSection) (defBody sIsSection) (defScope sIsSection) .none kVis dcis pmis anis cdis ctis), slis⟩)
    (cis : PySem.W.codeIn K cdis "_is_section" = true)
    (kis : PySem.W.keepIn K (.ref fis) = true)
    (auo : PySem.W.nsIn K mainGlobals "_units_of" = some (some (.ref fuo)))
    (luo : K.lookup fuo = some ⟨ocuo, oduo, .func (PySem.W.fnOf "_units_of" "_units_of" (defArgs sUnitsOf) (defBody sUnitsOf) (defScope sUnitsOf) .none kVuo dcuo pmuo anuo cduo ctuo), sluo⟩)
    (cuo : PySem.W.codeIn K cduo "_units_of" = true)
    (kuo : PySem.W.keepIn K (.ref fuo) = true)
    (afl : PySem.W.nsIn K mainGlobals "first_loser" = some (some (.ref ffl)))
    (lfl : K.lookup ffl = some ⟨ocfl, odfl, .func (PySem.W.fnOf "first_loser" "first_loser" (defArgs sFirstLoser) (defBody sFirstLoser) (defScope sFirstLoser) .none kVfl dcfl pmfl anfl cdfl ctfl), slfl⟩)
    (cfl : PySem.W.codeIn K cdfl "first_loser" = true)
    (kfl : PySem.W.keepIn K (.ref ffl) = true)
    (afw : PySem.W.nsIn K mainGlobals "fewest_widened" = some (some (.ref ffw)))
    (lfw : K.lookup ffw = some ⟨ocfw, odfw, .func (PySem.W.fnOf "fewest_widened" "fewest_widened" (defArgs sFewestWidened) (defBody sFewestWidened) (defScope sFewestWidened) .none kVfw dcfw pmfw anfw cdfw ctfw), slfw⟩)
    (cfw : PySem.W.codeIn K cdfw "fewest_widened" = true)
    (kfw : PySem.W.keepIn K (.ref ffw) = true)
    (ahw : PySem.W.nsIn K mainGlobals "harmful_widenings" = some (some (.ref fhw)))
    (lhw : K.lookup fhw = some ⟨ochw, odhw, .func (PySem.W.fnOf "harmful_widenings" "harmful_widenings" (defArgs sHarmfulWidenings) (defBody sHarmfulWidenings) (defScope sHarmfulWidenings) .none kVhw dchw pmhw anhw cdhw cthw), slhw⟩)
    (chw : PySem.W.codeIn K cdhw "harmful_widenings" = true)
    (khw : PySem.W.keepIn K (.ref fhw) = true)
    (adi : PySem.W.nsIn K mainGlobals "_law_dice" = some (some (.ref fdi)))
    (ldi : K.lookup fdi = some ⟨ocdi, oddi, .func (PySem.W.fnOf "_law_dice" "_law_dice" (defArgs sDice) (defBody sDice) (defScope sDice) .none kVdi dcdi pmdi andi cddi ctdi), sldi⟩)
    (cdi : PySem.W.codeIn K cddi "_law_dice" = true)
    (kdi : PySem.W.keepIn K (.ref fdi) = true)
    (ane : PySem.W.nsIn K mainGlobals "_law_next" = some (some (.ref fne)))
    (lne : K.lookup fne = some ⟨ocne, odne, .func (PySem.W.fnOf "_law_next" "_law_next" (defArgs sNext) (defBody sNext) (defScope sNext) .none kVne dcne pmne anne cdne ctne), slne⟩)
    (cne : PySem.W.codeIn K cdne "_law_next" = true)
    (kne : PySem.W.keepIn K (.ref fne) = true)
    (ali : PySem.W.nsIn K mainGlobals "_law_like" = some (some (.ref fli)))
    (lli : K.lookup fli = some ⟨ocli, odli, .func (PySem.W.fnOf "_law_like" "_law_like" (defArgs sLike) (defBody sLike) (defScope sLike) .none kVli dcli pmli anli cdli ctli), slli⟩)
    (cli : PySem.W.codeIn K cdli "_law_like" = true)
    (kli : PySem.W.keepIn K (.ref fli) = true)
    (api : PySem.W.nsIn K mainGlobals "_law_pick" = some (some (.ref fpi)))
    (lpi : K.lookup fpi = some ⟨ocpi, odpi, .func (PySem.W.fnOf "_law_pick" "_law_pick" (defArgs sPick) (defBody sPick) (defScope sPick) .none kVpi dcpi pmpi anpi cdpi ctpi), slpi⟩)
    (cpi : PySem.W.codeIn K cdpi "_law_pick" = true)
    (kpi : PySem.W.keepIn K (.ref fpi) = true)
    (ato : PySem.W.nsIn K mainGlobals "_law_told" = some (some (.ref fto)))
    (lto : K.lookup fto = some ⟨octo, odto, .func (PySem.W.fnOf "_law_told" "_law_told" (defArgs sTold) (defBody sTold) (defScope sTold) .none kVto dcto pmto anto cdto ctto), slto⟩)
    (cto : PySem.W.codeIn K cdto "_law_told" = true)
    (kto : PySem.W.keepIn K (.ref fto) = true)
    (apa : PySem.W.nsIn K mainGlobals "_law_parts" = some (some (.ref fpa)))
    (lpa : K.lookup fpa = some ⟨ocpa, odpa, .func (PySem.W.fnOf "_law_parts" "_law_parts" (defArgs sParts) (defBody sParts) (defScope sParts) .none kVpa dcpa pmpa anpa cdpa ctpa), slpa⟩)
    (cpa : PySem.W.codeIn K cdpa "_law_parts" = true)
    (kpa : PySem.W.keepIn K (.ref fpa) = true)
    (ama : PySem.W.nsIn K mainGlobals "_law_made" = some (some (.ref fma)))
    (lma : K.lookup fma = some ⟨ocma, odma, .func (PySem.W.fnOf "_law_made" "_law_made" (defArgs sMade) (defBody sMade) (defScope sMade) .none kVma dcma pmma anma cdma ctma), slma⟩)
    (cma : PySem.W.codeIn K cdma "_law_made" = true)
    (kma : PySem.W.keepIn K (.ref fma) = true)
    (aca : PySem.W.nsIn K mainGlobals "_law_cars" = some (some (.ref fca)))
    (lca : K.lookup fca = some ⟨occa, odca, .func (PySem.W.fnOf "_law_cars" "_law_cars" (defArgs sCars) (defBody sCars) (defScope sCars) .none kVca dcca pmca anca cdca ctca), slca⟩)
    (cca : PySem.W.codeIn K cdca "_law_cars" = true)
    (kca : PySem.W.keepIn K (.ref fca) = true)
    (ase : PySem.W.nsIn K mainGlobals "_law_section" = some (some (.ref fse)))
    (lse : K.lookup fse = some ⟨ocse, odse, .func (PySem.W.fnOf "_law_section" "_law_section" (defArgs sSection) (defBody sSection) (defScope sSection) .none kVse dcse pmse anse cdse ctse), slse⟩)
    (cse : PySem.W.codeIn K cdse "_law_section" = true)
    (kse : PySem.W.keepIn K (.ref fse) = true)
    (adr : PySem.W.nsIn K mainGlobals "_law_driven" = some (some (.ref fdr)))
    (ldr : K.lookup fdr = some ⟨ocdr, oddr, .func (PySem.W.fnOf "_law_driven" "_law_driven" (defArgs sDriven) (defBody sDriven) (defScope sDriven) .none kVdr dcdr pmdr andr cddr ctdr), sldr⟩)
    (cdr : PySem.W.codeIn K cddr "_law_driven" = true)
    (kdr : PySem.W.keepIn K (.ref fdr) = true)
    (aar : PySem.W.nsIn K mainGlobals "_law_arrivals" = some (some (.ref far)))
    (lar : K.lookup far = some ⟨ocar, odar, .func (PySem.W.fnOf "_law_arrivals" "_law_arrivals" (defArgs sArrivals) (defBody sArrivals) (defScope sArrivals) .none kVar dcar pmar anar cdar ctar), slar⟩)
    (car : PySem.W.codeIn K cdar "_law_arrivals" = true)
    (kar : PySem.W.keepIn K (.ref far) = true)
    (awi : PySem.W.nsIn K mainGlobals "_law_wide" = some (some (.ref fwi)))
    (lwi : K.lookup fwi = some ⟨ocwi, odwi, .func (PySem.W.fnOf "_law_wide" "_law_wide" (defArgs sWide) (defBody sWide) (defScope sWide) .none kVwi dcwi pmwi anwi cdwi ctwi), slwi⟩)
    (cwi : PySem.W.codeIn K cdwi "_law_wide" = true)
    (kwi : PySem.W.keepIn K (.ref fwi) = true)
    (alo : PySem.W.nsIn K mainGlobals "_law_lost" = some (some (.ref flo)))
    (llo : K.lookup flo = some ⟨oclo, odlo, .func (PySem.W.fnOf "_law_lost" "_law_lost" (defArgs sLost) (defBody sLost) (defScope sLost) .none kVlo dclo pmlo anlo cdlo ctlo), sllo⟩)
    (clo : PySem.W.codeIn K cdlo "_law_lost" = true)
    (klo : PySem.W.keepIn K (.ref flo) = true)
    (ala : PySem.W.nsIn K mainGlobals "law" = some (some (.ref fla)))
    (lla : K.lookup fla = some ⟨ocla, odla, .func (PySem.W.fnOf "law" "law" (defArgs sLaw) (defBody sLaw) (defScope sLaw) .none kVla dcla pmla anla (.ref ccla) ctla), slla⟩)
    (cla : PySem.W.codeIn K (.ref ccla) "law" = true)
    (kla : PySem.W.keepIn K (.ref fla) = true)
    (hla : PySem.W.codeHdIn K ccla Pla = true)
    (nla : K.lookup Pla = none)
    (aDi : PySem.W.findIn K (.ref C) "__init__" = some (some (.ref fDi)))
    (iDi : PySem.W.isFn K (.ref fDi) = true)
    (lDi : K.lookup fDi = some ⟨ocDi, odDi, .func (PySem.W.fnOf "__init__" "Drive.__init__" (defArgs sDInit) (defBody sDInit) (defScope sDInit) .none kVDi dcDi pmDi anDi cdDi ctDi), slDi⟩)
    (cDi : PySem.W.codeIn K cdDi "Drive.__init__" = true)
    (kDi : PySem.W.keepIn K (.ref fDi) = true)
    (aDc : PySem.W.findIn K (.ref C) "_check_car" = some (some (.ref fDc)))
    (iDc : PySem.W.isFn K (.ref fDc) = true)
    (lDc : K.lookup fDc = some ⟨ocDc, odDc, .func (PySem.W.fnOf "_check_car" "Drive._check_car" (defArgs sDCheckCar) (defBody sDCheckCar) (defScope sDCheckCar) .none kVDc dcDc pmDc anDc cdDc ctDc), slDc⟩)
    (cDc : PySem.W.codeIn K cdDc "Drive._check_car" = true)
    (kDc : PySem.W.keepIn K (.ref fDc) = true)
    (aDp : PySem.W.findIn K (.ref C) "_check_place" = some (some (.ref fDp)))
    (iDp : PySem.W.isFn K (.ref fDp) = true)
    (lDp : K.lookup fDp = some ⟨ocDp, odDp, .func (PySem.W.fnOf "_check_place" "Drive._check_place" (defArgs sDCheckPlace) (defBody sDCheckPlace) (defScope sDCheckPlace) .none kVDp dcDp pmDp anDp cdDp ctDp), slDp⟩)
    (cDp : PySem.W.codeIn K cdDp "Drive._check_place" = true)
    (kDp : PySem.W.keepIn K (.ref fDp) = true)
    (aDa : PySem.W.findIn K (.ref C) "__call__" = some (some (.ref fDa)))
    (iDa : PySem.W.isFn K (.ref fDa) = true)
    (lDa : K.lookup fDa = some ⟨ocDa, odDa, .func (PySem.W.fnOf "__call__" "Drive.__call__" (defArgs sDCall) (defBody sDCall) (defScope sDCall) (.ref Td) kVDa dcDa pmDa anDa cdDa ctDa), slDa⟩)
    (cDa : PySem.W.codeIn K cdDa "Drive.__call__" = true)
    (kDa : PySem.W.keepIn K (.ref fDa) = true)
    (lT : K.lookup Td = some ⟨ocT, odT, .seq #[Value.none] nT, slT⟩)
    (aDh : PySem.W.findIn K (.ref C) "__contains__" = some (some (.ref fDh)))
    (iDh : PySem.W.isFn K (.ref fDh) = true)
    (lDh : K.lookup fDh = some ⟨ocDh, odDh, .func (PySem.W.fnOf "__contains__" "Drive.__contains__" (defArgs sDHas) (defBody sDHas) (defScope sDHas) .none kVDh dcDh pmDh anDh cdDh ctDh), slDh⟩)
    (cDh : PySem.W.codeIn K cdDh "Drive.__contains__" = true)
    (kDh : PySem.W.keepIn K (.ref fDh) = true)
    (aDx : PySem.W.findIn K (.ref C) "losses" = some (some (.ref fDx)))
    (iDx : PySem.W.isFn K (.ref fDx) = true)
    (lDx : K.lookup fDx = some ⟨ocDx, odDx, .func (PySem.W.fnOf "losses" "Drive.losses" (defArgs sDLosses) (defBody sDLosses) (defScope sDLosses) .none kVDx dcDx pmDx anDx cdDx ctDx), slDx⟩)
    (cDx : PySem.W.codeIn K cdDx "Drive.losses" = true)
    (kDx : PySem.W.keepIn K (.ref fDx) = true)
    (aRi : PySem.W.findIn K (.ref CR) "__init__" = some (some (.ref fRi)))
    (iRi : PySem.W.isFn K (.ref fRi) = true)
    (lRi : K.lookup fRi = some ⟨ocRi, odRi, .func (PySem.W.fnOf "__init__" "Road.__init__" (defArgs sRInit) (defBody sRInit) (defScope sRInit) .none kVRi dcRi pmRi anRi cdRi ctRi), slRi⟩)
    (cRi : PySem.W.codeIn K cdRi "Road.__init__" = true)
    (kRi : PySem.W.keepIn K (.ref fRi) = true)
    (aRa : PySem.W.findIn K (.ref CR) "__add__" = some (some (.ref fRa)))
    (iRa : PySem.W.isFn K (.ref fRa) = true)
    (lRa : K.lookup fRa = some ⟨ocRa, odRa, .func (PySem.W.fnOf "__add__" "Road.__add__" (defArgs sRAdd) (defBody sRAdd) (defScope sRAdd) .none kVRa dcRa pmRa anRa cdRa ctRa), slRa⟩)
    (cRa : PySem.W.codeIn K cdRa "Road.__add__" = true)
    (kRa : PySem.W.keepIn K (.ref fRa) = true)
    (aRw : PySem.W.findIn K (.ref CR) "widened" = some (some (.ref fRw)))
    (iRw : PySem.W.isFn K (.ref fRw) = true)
    (lRw : K.lookup fRw = some ⟨ocRw, odRw, .func (PySem.W.fnOf "widened" "Road.widened" (defArgs sRWidened) (defBody sRWidened) (defScope sRWidened) .none kVRw dcRw pmRw anRw cdRw ctRw), slRw⟩)
    (cRw : PySem.W.codeIn K cdRw "Road.widened" = true)
    (kRw : PySem.W.keepIn K (.ref fRw) = true)
    (aRs : PySem.W.findIn K (.ref CR) "sections" = some (some (.ref pRs)))
    (gRs : PySem.W.specialIn K (.ref pRs) "__get__" = some (some (.builtin "property.__get__")))
    (tRs : PySem.W.takesIn K (.ref pRs) = some true)
    (rRs : PySem.W.recIn K pRs "property" = some (.ref fRs :: rRsL))
    (lRs : K.lookup fRs = some ⟨ocRs, odRs, .func (PySem.W.fnOf "sections" "Road.sections" (defArgs sRSections) (defBody sRSections) (defScope sRSections) .none kVRs dcRs pmRs anRs cdRs ctRs), slRs⟩)
    (cRs : PySem.W.codeIn K cdRs "Road.sections" = true)
    (kRs : PySem.W.keepIn K (.ref fRs) = true)
    (jDa : PySem.W.fnIn K fDa = true)
    (jRw : PySem.W.fnIn K fRw = true)
    (pgC : PySem.W.plainGet K C Str.empty = true)
    (hdC : PySem.W.hasDictIn K C = true)
    (poC : PySem.W.plainOver K C = true)
    (saC : PySem.W.findIn K (.ref C) "__setattr__" = some (some (.builtin "object.__setattr__")))
    (mkC : PySem.W.makesIn K C = true)
    (kcC : PySem.W.keepIn K (.ref C) = true)
    (pgR : PySem.W.plainGet K CR Str.empty = true)
    (hdR : PySem.W.hasDictIn K CR = true)
    (poR : PySem.W.plainOver K CR = true)
    (saR : PySem.W.findIn K (.ref CR) "__setattr__" = some (some (.builtin "object.__setattr__")))
    (mkR : PySem.W.makesIn K CR = true)
    (kcR : PySem.W.keepIn K (.ref CR) = true)
    (nC_sections : PySem.W.findIn K (.ref C) "_sections" = some none)
    (nC_paces : PySem.W.findIn K (.ref C) "_paces" = some none)
    (nC_ticks : PySem.W.findIn K (.ref C) "_ticks" = some none)
    (nC_orders : PySem.W.findIn K (.ref C) "_orders" = some none)
    (nC_leaders : PySem.W.findIn K (.ref C) "_leaders" = some none)
    (nR_sections : PySem.W.findIn K (.ref CR) "_sections" = some none)
    (nR_units : PySem.W.findIn K (.ref CR) "_units" = some none)
    (z_isinstance : PySem.W.nsIn K mainGlobals "isinstance" = some none)
    (z_int : PySem.W.nsIn K mainGlobals "int" = some none)
    (z_bool : PySem.W.nsIn K mainGlobals "bool" = some none)
    (z_str : PySem.W.nsIn K mainGlobals "str" = some none)
    (z_tuple : PySem.W.nsIn K mainGlobals "tuple" = some none)
    (z_len : PySem.W.nsIn K mainGlobals "len" = some none)
    (z_all : PySem.W.nsIn K mainGlobals "all" = some none)
    (z_enumerate : PySem.W.nsIn K mainGlobals "enumerate" = some none)
    (z_sorted : PySem.W.nsIn K mainGlobals "sorted" = some none)
    (z_list : PySem.W.nsIn K mainGlobals "list" = some none)
    (z_range : PySem.W.nsIn K mainGlobals "range" = some none)
    (z_sum : PySem.W.nsIn K mainGlobals "sum" = some none)
    (z_dict : PySem.W.nsIn K mainGlobals "dict" = some none)
    (z_max : PySem.W.nsIn K mainGlobals "max" = some none)
    (z_min : PySem.W.nsIn K mainGlobals "min" = some none)
    (z_ValueError : PySem.W.nsIn K mainGlobals "ValueError" = some none)
    (v0 : PySem.W.nsIn K mainGlobals "MOST_CARS" = some (some (.int 10 t0)))
    (v1 : PySem.W.nsIn K mainGlobals "LONGEST_NAME" = some (some (.int 8 t1)))
    (v2 : PySem.W.nsIn K mainGlobals "LATEST_START" = some (some (.int 1000000 t2)))
    (v3 : PySem.W.nsIn K mainGlobals "SLOWEST_PACE" = some (some (.int 60 t3)))
    (v4 : PySem.W.nsIn K mainGlobals "MOST_SECTIONS" = some (some (.int 12 t4)))
    (v5 : PySem.W.nsIn K mainGlobals "LONGEST_SECTION" = some (some (.int 99 t5)))
    (v6 : PySem.W.nsIn K mainGlobals "GREATEST_LOSS" = some (some (.int 1000000 t6)))
    (aL : PySem.W.nsIn K mainGlobals "LETTERS" = some (some (.ref lp)))
    (aK : PySem.W.nsIn K mainGlobals "KINDS" = some (some (.ref kp)))
    (dlN : KDct K w lp "narrow" (.str "n"))
    (dlW : KDct K w lp "wide" (.str "w"))
    (dkN : KDct K w kp "n" (.str "narrow"))
    (dkW : KDct K w kp "w" (.str "wide"))
    (kM : (kp == sysModules) = false)
    (eE : PySem.W.nsIn K mainGlobals "RoadError" = some (some (.ref CE)))
    (e0 : PySem.W.nsIn K mainGlobals "InvalidRoad" = some (some (.ref c0)))
    (e1 : PySem.W.nsIn K mainGlobals "InvalidCars" = some (some (.ref c1)))
    (e2 : PySem.W.nsIn K mainGlobals "UnknownSection" = some (some (.ref CS)))
    (e3 : PySem.W.nsIn K mainGlobals "UnknownCar" = some (some (.ref c3)))
    (e4 : PySem.W.nsIn K mainGlobals "InvalidNumber" = some (some (.ref CN)))
    (dEs : PySem.W.subIn K (.ref CE) (.type "BaseException") = some true)
    (dEh : PySem.W.hasDictIn K CE = true)
    (dEt : PySem.W.typeIn K (.ref CE) = some (.type "type"))
    (d0c : PySem.W.isClsIn K c0 = true)
    (d0t : PySem.W.typeIn K (.ref c0) = some (.type "type"))
    (d1c : PySem.W.isClsIn K c1 = true)
    (d1t : PySem.W.typeIn K (.ref c1) = some (.type "type"))
    (d2c : PySem.W.isClsIn K CS = true)
    (d2t : PySem.W.typeIn K (.ref CS) = some (.type "type"))
    (d3c : PySem.W.isClsIn K c3 = true)
    (d3t : PySem.W.typeIn K (.ref c3) = some (.type "type"))
    (d4c : PySem.W.isClsIn K CN = true)
    (d4t : PySem.W.typeIn K (.ref CN) = some (.type "type"))
    (r2cl : PySem.W.isClsIn K CS = true)
    (r2ga : PySem.W.findIn K (.ref CS) "__getattribute__" = some (some (.builtin "BaseException.__getattribute__")))
    (r2gg : PySem.W.findIn K (.ref CS) "__getattr__" = some none)
    (r2sb : PySem.W.subIn K (.ref CS) (.type "BaseException") = some true)
    (r2hd : PySem.W.hasDictIn K CS = true)
    (r2ct : PySem.W.findIn K (.ref CS) "__class__" = some (some (.builtin "object.__class__")))
    (r2mr : PySem.W.mroIn K CS (.type "object") = some true)
    (r2ix : PySem.W.findIn K (.ref CS) "index" = some none)
    (r2nm : PySem.W.findIn K (.ref CS) "name" = some none)
    (r2xe : PySem.W.subIn K (.ref CS) (.ref CE) = some true)
    (r2kv : PySem.W.subIn K (.ref CS) (.type "ValueError") = some true)
    (r2k0 : PySem.W.subIn K (.ref CS) (.ref c0) = some false)
    (r2k1 : PySem.W.subIn K (.ref CS) (.ref c1) = some false)
    (r2k2 : PySem.W.subIn K (.ref CS) (.ref CS) = some true)
    (r2k3 : PySem.W.subIn K (.ref CS) (.ref c3) = some false)
    (r2k4 : PySem.W.subIn K (.ref CS) (.ref CN) = some false)
    (r4cl : PySem.W.isClsIn K CN = true)
    (r4ga : PySem.W.findIn K (.ref CN) "__getattribute__" = some (some (.builtin "BaseException.__getattribute__")))
    (r4gg : PySem.W.findIn K (.ref CN) "__getattr__" = some none)
    (r4sb : PySem.W.subIn K (.ref CN) (.type "BaseException") = some true)
    (r4hd : PySem.W.hasDictIn K CN = true)
    (r4ct : PySem.W.findIn K (.ref CN) "__class__" = some (some (.builtin "object.__class__")))
    (r4mr : PySem.W.mroIn K CN (.type "object") = some true)
    (r4ix : PySem.W.findIn K (.ref CN) "index" = some none)
    (r4nm : PySem.W.findIn K (.ref CN) "name" = some none)
    (r4xe : PySem.W.subIn K (.ref CN) (.ref CE) = some true)
    (r4kv : PySem.W.subIn K (.ref CN) (.type "ValueError") = some true)
    (r4k0 : PySem.W.subIn K (.ref CN) (.ref c0) = some false)
    (r4k1 : PySem.W.subIn K (.ref CN) (.ref c1) = some false)
    (r4k2 : PySem.W.subIn K (.ref CN) (.ref CS) = some false)
    (r4k3 : PySem.W.subIn K (.ref CN) (.ref c3) = some false)
    (r4k4 : PySem.W.subIn K (.ref CN) (.ref CN) = some true)
    (xS : K.lookup CS = some (PySem.excClassObj nmS qS CS NS bsS [.ref CE, .type "ValueError", .type "Exception", .type "BaseException", .type "object"] true snS subS abS colS ddS u0 u1 u2 u3 u5 "ValueError.__new__"))
    (saS : PySem.W.findIn K (.ref CS) "__setattr__" = some (some (.builtin "object.__setattr__")))
    (kS : PySem.W.keepIn K (.ref CS) = true)
    (aSi : PySem.W.findIn K (.ref CS) "__init__" = some (some (.ref fSi)))
    (tSi : PySem.W.typeIn K (.ref fSi) = some (.type "function"))
    (lSi : K.lookup fSi = some ⟨ocSi, odSi, .func (PySem.W.fnOf "__init__" "UnknownSection.__init__" (defArgs sUnknownSectionInit) (defBody sUnknownSectionInit) (defScope sUnknownSectionInit) .none kVSi dcSi pmSi anSi cdSi ctSi), slSi⟩)
    (cSi : PySem.W.codeIn K cdSi "UnknownSection.__init__" = true)
    (kSi : PySem.W.keepIn K (.ref fSi) = true)
    (qhn : PySem.W.specialIn K (.builtin "object.__class__") "__get__" = some (some (.builtin "getset_descriptor.__get__")))
    (qht : PySem.W.takesIn K (.builtin "object.__class__") = some true)
    (n4q : PySem.W.excIn K CN [.type "ValueError", .type "Exception", .type "BaseException", .type "object"] "ValueError.__new__" = true)
    (n4k : PySem.W.keepIn K (.ref CN) = true)
    (n4t : PySem.W.typeIn K (.ref CN) = some (.type "type"))
    (qha : PySem.W.findIn K (.ref CR) "__class__" = some (some (.builtin "object.__class__")))
    (qhm : PySem.W.mroIn K CR (.type "object") = some true)
    (qsf : PySem.W.selfFirst K CR = true)
    (qwg : PySem.W.specialIn K (.ref fRw) "__get__" = some (some (.builtin "function.__get__")))
    (qwt : PySem.W.takesIn K (.ref fRw) = some false)
    (neP01 : Pio ≠ Pla)
    (hT : ∀ P ∈ [Pio, Pla], h.get? P = some { cls := .none, data := .fields #[] }) : LamX.LawAtS l w K CX0 11 63 "_law_script" mg fa h := by
  have e := hfa.symm.trans (PySem.W.mg_of X G ala)
  cases e
  have M : Mg mg := ⟨PySem.W.mg_none_of X G z_isinstance, PySem.W.mg_none_of X G z_int, PySem.W.mg_none_of X G z_bool, PySem.W.mg_none_of X G z_str, PySem.W.mg_none_of X G z_tuple, PySem.W.mg_none_of X G z_len, PySem.W.mg_none_of X G z_all, PySem.W.mg_none_of X G z_enumerate, PySem.W.mg_none_of X G z_sorted, PySem.W.mg_none_of X G z_list, PySem.W.mg_none_of X G z_range, PySem.W.mg_none_of X G z_sum, ⟨_, PySem.W.mg_of X G v0⟩, ⟨_, PySem.W.mg_of X G v1⟩, ⟨_, PySem.W.mg_of X G v2⟩, ⟨_, PySem.W.mg_of X G v3⟩, ⟨_, PySem.W.mg_of X G v4⟩, ⟨_, PySem.W.mg_of X G v5⟩⟩
  have R : DriveT K mg C := ⟨⟨pgC, hdC, poC, saC⟩, nC_sections, nC_paces, nC_ticks, nC_orders, nC_leaders, PySem.W.mg_of X G aC⟩
  have RR : RoadT K w mg CR lp kp := ⟨⟨pgR, hdR, poR, saR⟩, nR_sections, nR_units, PySem.W.mg_of X G aR, PySem.W.mg_of X G aL, PySem.W.mg_of X G aK, dlN, dlW, dkN, dkW, kM⟩
  have Fin := fun_mk (st := sIsNumber) lin cin kin
  have Bin : Fb K mg "is_number" sIsNumber ["value", "least", "most"] fin _ := ⟨Fin, PySem.W.mg_of X G ain, Fin.binds (ps := ["value", "least", "most"]) fun _ _ _ _ _ _ us hl => match us, hl with | [_, _, _], _ => rfl⟩
  have Fnm := fun_mk (st := sIsName) lnm cnm knm
  have Bnm : Fb K mg "is_name" sIsName ["value"] fnm _ := ⟨Fnm, PySem.W.mg_of X G anm, Fnm.binds (ps := ["value"]) fun _ _ _ _ _ _ us hl => match us, hl with | [_], _ => rfl⟩
  have Fic := fun_mk (st := sIsCar) lic cic kic
  have Bic : Fb K mg "is_car" sIsCar ["value"] fic _ := ⟨Fic, PySem.W.mg_of X G aic, Fic.binds (ps := ["value"]) fun _ _ _ _ _ _ us hl => match us, hl with | [_], _ => rfl⟩
  have Fcc := fun_mk (st := sCheckCars) lcc ccc kcc
  have Bcc : Fb K mg "check_cars" sCheckCars ["cars"] fcc _ := ⟨Fcc, PySem.W.mg_of X G acc, Fcc.binds (ps := ["cars"]) fun _ _ _ _ _ _ us hl => match us, hl with | [_], _ => rfl⟩
  have Bio : FbC K mg "_in_order" sInOrder ["names", "ticks"] fio _ ccio := ⟨⟨⟨_, _, _, _, _, _, _, _, rfl, lio, cio⟩, kio⟩, PySem.W.mg_of X G aio, .all fun us hl => match us, hl with | [_, _], _ => rfl⟩
  have Ffo := fun_mk (st := sFollow) lfo cfo kfo
  have Bfo : Fb K mg "_follow" sFollow ["order", "free"] ffo _ := ⟨Ffo, PySem.W.mg_of X G afo, Ffo.binds (ps := ["order", "free"]) fun _ _ _ _ _ _ us hl => match us, hl with | [_, _], _ => rfl⟩
  have Fdv := fun_mk (st := sDriveAll) ldv cdv kdv
  have Bdv : Fb K mg "drive_all" sDriveAll ["sections", "starts", "paces"] fdv _ := ⟨Fdv, PySem.W.mg_of X G adv, Fdv.binds (ps := ["sections", "starts", "paces"]) fun _ _ _ _ _ _ us hl => match us, hl with | [_, _, _], _ => rfl⟩
  have Fis := fun_mk (st := sIsSection) lis cis kis
  have Bis : Fb K mg "_is_section" sIsSection ["value"] fis _ := ⟨Fis, PySem.W.mg_of X G ais, Fis.binds (ps := ["value"]) fun _ _ _ _ _ _ us hl => match us, hl with | [_], _ => rfl⟩
  have Fuo := fun_mk (st := sUnitsOf) luo cuo kuo
  have Buo : Fb K mg "_units_of" sUnitsOf ["sections"] fuo _ := ⟨Fuo, PySem.W.mg_of X G auo, Fuo.binds (ps := ["sections"]) fun _ _ _ _ _ _ us hl => match us, hl with | [_], _ => rfl⟩
  have Ffl := fun_mk (st := sFirstLoser) lfl cfl kfl
  have Ffw := fun_mk (st := sFewestWidened) lfw cfw kfw
  have Bfw : Fb K mg "fewest_widened" sFewestWidened ["road", "cars", "most"] ffw _ := ⟨Ffw, PySem.W.mg_of X G afw, Ffw.binds (ps := ["road", "cars", "most"]) fun _ _ _ _ _ _ us hl => match us, hl with | [_, _, _], _ => rfl⟩
  have Fhw := fun_mk (st := sHarmfulWidenings) lhw chw khw
  have Bhw : Fb K mg "harmful_widenings" sHarmfulWidenings ["road", "cars"] fhw _ := ⟨Fhw, PySem.W.mg_of X G ahw, Fhw.binds (ps := ["road", "cars"]) fun _ _ _ _ _ _ us hl => match us, hl with | [_, _], _ => rfl⟩
  have Fdi := fun_mk (st := sDice) ldi cdi kdi
  have Bdi : Fb K mg "_law_dice" sDice ["_law_script"] fdi _ := ⟨Fdi, PySem.W.mg_of X G adi, Fdi.binds (ps := ["_law_script"]) fun _ _ _ _ _ _ us hl => match us, hl with | [_], _ => rfl⟩
  have Fne := fun_mk (st := sNext) lne cne kne
  have Bne : Fb K mg "_law_next" sNext ["_law_dice_here", "_law_many"] fne _ := ⟨Fne, PySem.W.mg_of X G ane, Fne.binds (ps := ["_law_dice_here", "_law_many"]) fun _ _ _ _ _ _ us hl => match us, hl with | [_, _], _ => rfl⟩
  have Fli := fun_mk (st := sLike) lli cli kli
  have Bli : Fb K mg "_law_like" sLike ["_law_found", "_law_due"] fli _ := ⟨Fli, PySem.W.mg_of X G ali, Fli.binds (ps := ["_law_found", "_law_due"]) fun _ _ _ _ _ _ us hl => match us, hl with | [_, _], _ => rfl⟩
  have Fpi := fun_mk (st := sPick) lpi cpi kpi
  have Bpi : Fb K mg "_law_pick" sPick ["_law_d", "_law_some"] fpi _ := ⟨Fpi, PySem.W.mg_of X G api, Fpi.binds (ps := ["_law_d", "_law_some"]) fun _ _ _ _ _ _ us hl => match us, hl with | [_, _], _ => rfl⟩
  have Fto := fun_mk (st := sTold) lto cto kto
  have Bto : Fb K mg "_law_told" sTold ["_law_work"] fto _ := ⟨Fto, PySem.W.mg_of X G ato, Fto.binds (ps := ["_law_work"]) fun _ _ _ _ _ _ us hl => match us, hl with | [_], _ => rfl⟩
  have Fpa := fun_mk (st := sParts) lpa cpa kpa
  have Bpa : Fb K mg "_law_parts" sParts ["_law_d", "_law_most", "_law_long"] fpa _ := ⟨Fpa, PySem.W.mg_of X G apa, Fpa.binds (ps := ["_law_d", "_law_most", "_law_long"]) fun _ _ _ _ _ _ us hl => match us, hl with | [_, _, _], _ => rfl⟩
  have Fma := fun_mk (st := sMade) lma cma kma
  have Bma : Fb K mg "_law_made" sMade ["_law_parts_here"] fma _ := ⟨Fma, PySem.W.mg_of X G ama, Fma.binds (ps := ["_law_parts_here"]) fun _ _ _ _ _ _ us hl => match us, hl with | [_], _ => rfl⟩
  have Fca := fun_mk (st := sCars) lca cca kca
  have Bca : Fb K mg "_law_cars" sCars ["_law_d", "_law_most", "_law_span", "_law_paces"] fca _ := ⟨Fca, PySem.W.mg_of X G aca, Fca.binds (ps := ["_law_d", "_law_most", "_law_span", "_law_paces"]) fun _ _ _ _ _ _ us hl => match us, hl with | [_, _, _, _], _ => rfl⟩
  have Fse := fun_mk (st := sSection) lse cse kse
  have Bse : Fb K mg "_law_section" sSection ["_law_kind", "_law_length", "_law_entries"] fse _ := ⟨Fse, PySem.W.mg_of X G ase, Fse.binds (ps := ["_law_kind", "_law_length", "_law_entries"]) fun _ _ _ _ _ _ us hl => match us, hl with | [_, _, _], _ => rfl⟩
  have Fdr := fun_mk (st := sDriven) ldr cdr kdr
  have Bdr : Fb K mg "_law_driven" sDriven ["_law_parts_here", "_law_cars_here"] fdr _ := ⟨Fdr, PySem.W.mg_of X G adr, Fdr.binds (ps := ["_law_parts_here", "_law_cars_here"]) fun _ _ _ _ _ _ us hl => match us, hl with | [_, _], _ => rfl⟩
  have Far := fun_mk (st := sArrivals) lar car kar
  have Bar : Fb K mg "_law_arrivals" sArrivals ["_law_parts_here", "_law_cars_here"] far _ := ⟨Far, PySem.W.mg_of X G aar, Far.binds (ps := ["_law_parts_here", "_law_cars_here"]) fun _ _ _ _ _ _ us hl => match us, hl with | [_, _], _ => rfl⟩
  have Fwi := fun_mk (st := sWide) lwi cwi kwi
  have Bwi : Fb K mg "_law_wide" sWide ["_law_parts_here", "_law_indexes"] fwi _ := ⟨Fwi, PySem.W.mg_of X G awi, Fwi.binds (ps := ["_law_parts_here", "_law_indexes"]) fun _ _ _ _ _ _ us hl => match us, hl with | [_, _], _ => rfl⟩
  have Flo := fun_mk (st := sLost) llo clo klo
  have Blo : Fb K mg "_law_lost" sLost ["_law_parts_here", "_law_cars_here"] flo _ := ⟨Flo, PySem.W.mg_of X G alo, Flo.binds (ps := ["_law_parts_here", "_law_cars_here"]) fun _ _ _ _ _ _ us hl => match us, hl with | [_, _], _ => rfl⟩
  have Fla : FunC K "law" "law" sLaw _ _ ccla := ⟨⟨_, _, _, _, _, _, _, _, rfl, lla, cla⟩, kla⟩
  have FDi := fun_mk (st := sDInit) lDi cDi kDi
  have bDi := FDi.binds (ps := ["self", "road", "cars"]) fun _ _ _ _ _ _ us hl => match us, hl with | [_, _, _], _ => rfl
  have FDc := fun_mk (st := sDCheckCar) lDc cDc kDc
  have bDc := FDc.binds (ps := ["self", "name"]) fun _ _ _ _ _ _ us hl => match us, hl with | [_, _], _ => rfl
  have FDp := fun_mk (st := sDCheckPlace) lDp cDp kDp
  have bDp := FDp.binds (ps := ["self", "place"]) fun _ _ _ _ _ _ us hl => match us, hl with | [_, _], _ => rfl
  have FDa : FunD K "__call__" "Drive.__call__" (defArgs sDCall) (defBody sDCall) (defScope sDCall) [.non] [] fDa _ := ⟨⟨_, _, _, _, _, _, _, _, _, _, rfl, lDa, cDa, .inr ⟨by simp, Td, _, [Value.none], nT, rfl, lT, rfl, .cons rfl .nil⟩, .inl rfl⟩, kDa⟩
  obtain ⟨ds0, v0, bDa0⟩ := FDa.binds1 (ps := ["self", "name", "place"]) 3 1 (by simp) rfl (fun T kV doc pm an cdv ct us its hl hi => match us, hl, its, hi with | [_, _, _], _, [_], _ => ⟨_, rfl, rfl⟩)
  have e0 : ds0 = [] := by cases v0; rfl
  subst e0
  obtain ⟨dsDa, vDa, bDa1⟩ := FDa.binds1 (ps := ["self", "name", "place"]) 2 0 (by simp) rfl (fun T kV doc pm an cdv ct us its hl hi => match us, hl, its, hi with | [_, _], _, [_], _ => ⟨_, rfl, rfl⟩)
  have FDh := fun_mk (st := sDHas) lDh cDh kDh
  have bDh := FDh.binds (ps := ["self", "x"]) fun _ _ _ _ _ _ us hl => match us, hl with | [_, _], _ => rfl
  have FDx := fun_mk (st := sDLosses) lDx cDx kDx
  have bDx := FDx.binds (ps := ["self"]) fun _ _ _ _ _ _ us hl => match us, hl with | [_], _ => rfl
  have FRi := fun_mk (st := sRInit) lRi cRi kRi
  have FRa := fun_mk (st := sRAdd) lRa cRa kRa
  have bRa := FRa.binds (ps := ["self", "other"]) fun _ _ _ _ _ _ us hl => match us, hl with | [_, _], _ => rfl
  have FRw := fun_mk (st := sRWidened) lRw cRw kRw
  have FRs := fun_mk (st := sRSections) lRs cRs kRs
  have bRs := FRs.binds (ps := ["self"]) fun _ _ _ _ _ _ us hl => match us, hl with | [_], _ => rfl
  have MDi : Fm K C "__init__" "Drive.__init__" sDInit ["self", "road", "cars"] fDi _ := ⟨FDi, ⟨aDi, iDi, kDi⟩, bDi⟩
  have MDc : Fm K C "_check_car" "Drive._check_car" sDCheckCar ["self", "name"] fDc _ := ⟨FDc, ⟨aDc, iDc, kDc⟩, bDc⟩
  have MDp : Fm K C "_check_place" "Drive._check_place" sDCheckPlace ["self", "place"] fDp _ := ⟨FDp, ⟨aDp, iDp, kDp⟩, bDp⟩
  have MDx : Fm K C "losses" "Drive.losses" sDLosses ["self"] fDx _ := ⟨FDx, ⟨aDx, iDx, kDx⟩, bDx⟩
  let T : List (Addr × Str) := [(Pio, qInOrder), (Pla, qLaw)]
  have mio : (Pio, qInOrder) ∈ T := by simp [T]
  have mla : (Pla, qLaw) ∈ T := by simp [T]
  have uio : ∀ p ∈ T, p.1 = Pio → p.2 = qInOrder := fun p hp e => by
    rcases List.mem_cons.mp hp with z | hp
    · rw [z]
    · rw [List.mem_singleton.mp hp] at e
      exact absurd e.symm neP01
  have ula : ∀ p ∈ T, p.1 = Pla → p.2 = qLaw := fun p hp e => by
    rcases List.mem_cons.mp hp with z | hp
    · rw [z] at e
      exact absurd e neP01
    · rw [List.mem_singleton.mp hp]
  have PORs : PropOf K CR "sections" pRs fRs := ⟨aRs, gRs, tRs, _, rRs⟩
  have MI : Mk K C fDi := ⟨mkC, aDi, iDi, kcC⟩
  have MR : Mk K CR fRi := ⟨mkR, aRi, iRi, kcR⟩
  have Cio : PySem.W.CodeHd h ccio Pio := PySem.W.codeHd_of_K X hio
  have Cla : PySem.W.CodeHd h ccla Pla := PySem.W.codeHd_of_K X hla
  refine ⟨PySem.W.fnOf "law" "law" (defArgs sLaw) (defBody sLaw) (defScope sLaw) .none kVla dcla pmla anla (.ref ccla) ctla, [(ccio, Pio), (ccla, Pla)], spLaw K T, fun p hp => hT p.2 ?_, fun p hp => ?_, fun p hp => ?_, fun s v => .of_eq rfl, fun H a ns _ _ hH hS => ⟨a, ns, rfl, hS, fun p hp => ?_, fun _ => rfl⟩, fun base hK hNs hTB => ?_⟩
  · rcases List.mem_cons.mp hp with z | hp
    · rw [z]; simp
    · rw [List.mem_singleton.mp hp]; simp
  · rcases List.mem_cons.mp hp with z | hp
    · rw [z]; exact nio
    · rw [List.mem_singleton.mp hp]; exact nla
  · rcases List.mem_cons.mp hp with z | hp
    · rw [z]; exact Cio
    · rw [List.mem_singleton.mp hp]; exact Cla
  · rcases List.mem_cons.mp hp with z | hp
    · rw [z]; exact tabS0 (hH (ccio, Pio) (by simp))
    · rw [List.mem_singleton.mp hp]; exact tabS0 (hH (ccla, Pla) (by simp))
  have TBio : TabB base mg ccio Pio := hTB (ccio, Pio) (by simp)
  have TBla : TabB base mg ccla Pla := hTB (ccla, Pla) (by simp)
  have Gin := ok_isNumber (P := l.prog) (w := w) (base := base) Fin M
  have GinV := ok_isNumV (P := l.prog) (w := w) (base := base) Fin M
  have Gnm := ok_isName (P := l.prog) (w := w) (base := base) Fnm M
  have Gic := ok_isCar (P := l.prog) (w := w) (base := base) Bic M Bnm Bin Gnm Gin
  have Gcc := ok_checkCars (P := l.prog) (w := w) (base := base) Bcc M Bic Gic
  have Gio := ok_inOrder (P := l.prog) (w := w) (base := base) Bio M TBio mio uio
  have Gfo := ok_follow (P := l.prog) (w := w) (base := base) Bfo
  have Gis := ok_isSection (P := l.prog) (w := w) (base := base) Bis M Bin Gin
  have Guo := ok_unitsOf (P := l.prog) (w := w) (base := base) Buo RR
  have GRi := ok_rInit (P := l.prog) (w := w) (base := base) FRi M RR Bis Gis Buo Guo
  have GRs := ok_rSections (P := l.prog) (w := w) (base := base) FRs RR
  have qkit : PySem.W.kitOne K (.ref CR) (.ref CR) = some true := if_pos (by first | exact BEq.rfl | simp | rfl)
  have GRa := ok_rAdd (P := l.prog) (w := w) (base := base) FRa M RR ⟨qha, qhn, qht, qhm, qkit⟩ MR GRi
  have ea : (fun vs H Q E => spRAdd CR (vs ++ []) H Q E) = spRAdd CR := by funext vs H Q E; rw [List.append_nil]
  have GRa2 : FnR l.prog w K mg base CX0 5 fRa (spRAdd CR) := ea ▸ GRa.raw bRa .nil
  have Gdv := ok_driveAll (P := l.prog) (w := w) (base := base) (Pt:=Pio) Fdv M Bio Bfo Gio Gfo
  have GDi := ok_dInit (P := l.prog) (w := w) (base := base) MDi M R RR Bcc Bdv PORs bRs Gcc Gdv GRs
  have GDh := ok_has (P := l.prog) (w := w) (base := base) FDh M R
  have GDc := ok_checkCar (P := l.prog) (w := w) (base := base) MDc aDh iDh bDh GDh
  have GDp := ok_checkPlace (P := l.prog) (w := w) (base := base) MDp M R Bin Gin
  have GDa := ok_callD (P := l.prog) (w := w) (base := base) FDa M R MDc GDc MDp GDp
  have GDx := ok_losses (P := l.prog) (w := w) (base := base) FDx M R
  have GRw := ok_widened (P := l.prog) (w := w) (base := base) FRw M RR MR GRi Bin Gin
  have I63 : Inf63 l.prog w K mg base CR C T := ⟨M, R, ⟨_, PySem.W.mg_of X G v6⟩, ⟨_, _, MI, bDi, GDi⟩, ⟨_, _, _, ⟨aDa, iDa, jDa⟩, bDa1, vDa, GDa⟩, ⟨_, _, MDx, GDx⟩, ⟨_, _, Bcc, Gcc⟩, ⟨_, _, Bin, Gin⟩, ⟨_, ⟨⟨aRw, iRw, kRw⟩, qwg, qwt, by decide +kernel, jRw⟩, GRw⟩⟩
  have Gfl := ok_loser (P := l.prog) (w := w) (base := base) Ffl I63 RR
  have Gfw := ok_few (P := l.prog) (w := w) (base := base) Ffw M RR PORs bRs GRs (PySem.W.mg_of X G afl) Ffl Gfl
  have Ghw := ok_harm (P := l.prog) (w := w) (base := base) Fhw I63 RR PORs bRs GRs ⟨aRw, iRw, kRw⟩ GRw
  have OC : OexC K CS := ⟨⟨_, _, _, _, _, _, _, _, _, _, _, _, _, _, _, xS, rfl⟩, saS, r2sb, d2t, kS⟩
  have FSi := fun_mk (st := sUnknownSectionInit) lSi cSi kSi
  have bSi := FSi.binds (ps := ["self", "index"]) fun _ _ _ _ _ _ us hl => match us, hl with | [_, _], _ => rfl
  have GSi := ok_sInit (P := l.prog) (w := w) (base := base) (mg := mg) FSi OC r2ix
  have EU : ErrF l.prog w K mg base "UnknownSection" "index" CS := ⟨OC, PySem.W.mg_of X G e2, ⟨_, _, _, aSi, tSi, bSi, GSi⟩⟩
  have EN : ErrT K mg "InvalidNumber" CN := ⟨n4q, PySem.W.mg_of X G e4, n4k, r4sb, n4t⟩
  have GRwU := ok_widenedU (P := l.prog) (w := w) (base := base) FRw M RR EU Bin Gin
  have GflU := ok_loserU (P := l.prog) (w := w) (base := base) (fW:=fRw) (fM:=fRw) Ffl I63 RR EN ⟨_, _, Bin, GinV⟩ ⟨_, ⟨⟨aRw, iRw, kRw⟩, qwg, qwt, by decide +kernel, jRw⟩, GRwU⟩
  have GfwU := ok_fewU (P := l.prog) (w := w) (base := base) (C:=C) Ffw M RR PORs bRs GRs (PySem.W.mg_of X G afl) Ffl GflU
  have GfwX : FnOk l.prog w K mg base (L2.CX l.prog w) 8 ffw _ ["road", "cars", "most"] (spFewX CR CN T) := L2.FnOk.orX Gfw GfwU
  have GflX : FnR l.prog w K mg base (L2.CX l.prog w) 7 ffl (spFLX CR CS CN T) := L2.FnR.orX Gfl GflU
  have Gne := ok_next (P := l.prog) (w := w) (base := base) Fne M
  have Gdi := ok_dice (P := l.prog) (w := w) (base := base) Fdi M
  have Gpi := ok_pick (P := l.prog) (w := w) (base := base) Fpi M Bne Gne
  have Gpa := ok_parts (P := l.prog) (w := w) (base := base) Fpa M Bne Gne Bpi Gpi
  have Gca := ok_cars (P := l.prog) (w := w) (base := base) Fca M Bne Gne
  have Gma := ok_made (P := l.prog) (w := w) (base := base) (dA := PySem.W.fnOf "law" "law" (defArgs sLaw) (defBody sLaw) (defScope sLaw) .none kVla dcla pmla anla (.ref ccla) ctla) (ds := []) (dvs := []) Fma M RR MR GRi qsf aRa iRa GRa2
  have Gl0 := ok_like0 (P := l.prog) (w := w) (base := base) Fli M
  have Gl1 := ok_likeS (P := l.prog) (w := w) (base := base) Bli M Gl0
  have GlA : FnOk l.prog w K mg base CX0 2 fli _ ["_law_found", "_law_due"] (spL1 K) := L2.FnOk.orX (Gl0.mono (by decide)) Gl1
  have GlB := ok_likeS (P := l.prog) (w := w) (base := base) Bli M GlA
  have GlC : FnOk l.prog w K mg base CX0 3 fli _ ["_law_found", "_law_due"] (spL2 K) := L2.FnOk.orX (GlA.mono (by decide)) GlB
  have Gse := ok_lsec (P := l.prog) (w := w) (base := base) Fse M (PySem.W.mg_none_of X G z_max)
  have Gdr := ok_drivenW (P := l.prog) (w := w) (base := base) Fdr M Bse Gse
  have Gar := ok_arrs (P := l.prog) (w := w) (base := base) Far (PySem.W.mg_none_of X G z_dict) ⟨_, _, Bdr, Gdr⟩
  have Gwi := ok_wide (P := l.prog) (w := w) (base := base) Fwi M
  have Glo := ok_lost (P := l.prog) (w := w) (base := base) Flo M ⟨_, _, Bar, Gar⟩
  have WT : Teller K mg "_law_told" "_law_work" fto nTold (defBody sTold) (defScope sTold) cdto := ⟨PySem.W.mg_of X G ato, kto, ⟨_, _, _, _, _, _, _, _, _, _, lto, Bto.bd⟩, cto, scTold, rfl, .inl rfl⟩
  exact ok_law (C := C) Fla TBla mla ula ⟨M, PySem.W.mg_none_of X G z_max, PySem.W.mg_none_of X G z_min, ⟨PySem.W.mg_of X G eE, PySem.W.mg_of X G e0, PySem.W.mg_of X G e1, PySem.W.mg_of X G e2, PySem.W.mg_of X G e3, PySem.W.mg_of X G e4, PySem.W.mg_none_of X G z_ValueError⟩, ⟨⟨r2cl, r2ga, r2gg, r2sb, r2hd, r2ct, qhn, qht, r2mr, r2ix, r2nm⟩, PySem.W.exm_ref dEs dEh dEt r2xe, kit_refE r2k2 d0c d0t r2k0, kit_refE r2k2 d1c d1t r2k1, kit_refE r2k2 d2c d2t r2k2, kit_refE r2k2 d3c d3t r2k3, kit_refE r2k2 d4c d4t r2k4, kit_tyE (by decide +kernel) r2kv⟩, ⟨⟨r4cl, r4ga, r4gg, r4sb, r4hd, r4ct, qhn, qht, r4mr, r4ix, r4nm⟩, PySem.W.exm_ref dEs dEh dEt r4xe, kit_refE r4k4 d0c d0t r4k0, kit_refE r4k4 d1c d1t r4k1, kit_refE r4k4 d2c d2t r4k2, kit_refE r4k4 d3c d3t r4k3, kit_refE r4k4 d4c d4t r4k4, kit_tyE (by decide +kernel) r4kv⟩, ⟨_, _, Bdi, Gdi⟩, ⟨_, _, Bne, Gne⟩, ⟨_, _, Bpi, Gpi⟩, ⟨_, _, Bpa, Gpa⟩, ⟨_, _, Bca, Gca⟩, ⟨_, _, Bma, Gma⟩, ⟨_, _, Bli, GlC⟩, ⟨_, _, Bar, Gar⟩, ⟨_, _, Bwi, Gwi⟩, ⟨_, _, Blo, Glo⟩, ⟨_, _, Bfw, GfwX⟩, ⟨_, PySem.W.mg_of X G afl, kfl, GflX⟩, ⟨_, _, Bhw, Ghw.mono (by decide)⟩, ⟨_, _, WT⟩⟩
end Sl

open PySem PySem.W PyProof.Rows
set_option maxRecDepth 100000 in
set_option maxHeartbeats 0 in
theorem PySem.Challenge.cw_slowleaders_k07_wide_enough_holds : PySem.Challenge.rw_slowleaders_k07_wide_enough.Holds := by
  w_on; o_law; k_head; (case hw => w_witness2)
  k_fill
  refine LamX.walk_ofTs (l := PySem.Challenge.rw_slowleaders_k07_wide_enough) (n := 63) (k := 11) (x := "_law_script") (CX := fun _ => L2.CX0) rfl (by decide) rfl ⟨rfl, by decide, by decide⟩ (fun w h Y => PySem.W.km_in_of Y) ?F (fun _ _ _ _ _ z => z)
  case F =>
    intro w mg fa h Y KX G hmg
    have hT8 := km_tabs_of Y
    refine' Sl.all_mk (Pio := 150) (Pla := 485) KX G hmg ?aC ?aR ?ain ?lin ?cin ?kin ?anm ?lnm ?cnm ?knm ?aic ?lic ?cic ?kic ?acc ?lcc ?ccc ?kcc ?aio ?lio ?cio ?kio ?hio ?nio ?afo ?lfo ?cfo ?kfo ?adv ?ldv ?cdv ?kdv ?ais ?lis ?cis ?kis ?auo ?luo ?cuo ?kuo ?afl ?lfl ?cfl ?kfl ?afw ?lfw ?cfw ?kfw ?ahw ?lhw ?chw ?khw ?adi ?ldi ?cdi ?kdi ?ane ?lne ?cne ?kne ?ali ?lli ?cli ?kli ?api ?lpi ?cpi ?kpi ?ato ?lto ?cto ?kto ?apa ?lpa ?cpa ?kpa ?ama ?lma ?cma ?kma ?aca ?lca ?cca ?kca ?ase ?lse ?cse ?kse ?adr ?ldr ?cdr ?kdr ?aar ?lar ?car ?kar ?awi ?lwi ?cwi ?kwi ?alo ?llo ?clo ?klo ?ala ?lla ?cla ?kla ?hla ?nla ?aDi ?iDi ?lDi ?cDi ?kDi ?aDc ?iDc ?lDc ?cDc ?kDc ?aDp ?iDp ?lDp ?cDp ?kDp ?aDa ?iDa ?lDa ?cDa ?kDa ?lT ?aDh ?iDh ?lDh ?cDh ?kDh ?aDx ?iDx ?lDx ?cDx ?kDx ?aRi ?iRi ?lRi ?cRi ?kRi ?aRa ?iRa ?lRa ?cRa ?kRa ?aRw ?iRw ?lRw ?cRw ?kRw ?aRs ?gRs ?tRs ?rRs ?lRs ?cRs ?kRs ?jDa ?jRw ?pgC ?hdC ?poC ?saC ?mkC ?kcC ?pgR ?hdR ?poR ?saR ?mkR ?kcR ?nC_sections ?nC_paces ?nC_ticks ?nC_orders ?nC_leaders ?nR_sections ?nR_units ?z_isinstance ?z_int ?z_bool ?z_str ?z_tuple ?z_len ?z_all ?z_enumerate ?z_sorted ?z_list ?z_range ?z_sum ?z_dict ?z_max ?z_min ?z_ValueError ?v0 ?v1 ?v2 ?v3 ?v4 ?v5 ?v6 ?aL ?aK ?dlN ?dlW ?dkN ?dkW ?kM ?eE ?e0 ?e1 ?e2 ?e3 ?e4 ?dEs ?dEh ?dEt ?d0c ?d0t ?d1c ?d1t ?d2c ?d2t ?d3c ?d3t ?d4c ?d4t ?r2cl ?r2ga ?r2gg ?r2sb ?r2hd ?r2ct ?r2mr ?r2ix ?r2nm ?r2xe ?r2kv ?r2k0 ?r2k1 ?r2k2 ?r2k3 ?r2k4 ?r4cl ?r4ga ?r4gg ?r4sb ?r4hd ?r4ct ?r4mr ?r4ix ?r4nm ?r4xe ?r4kv ?r4k0 ?r4k1 ?r4k2 ?r4k3 ?r4k4 ?xS ?saS ?kS ?aSi ?tSi ?lSi ?cSi ?kSi ?qhn ?qht ?n4q ?n4k ?n4t ?qha ?qhm ?qsf ?qwg ?qwt ?neP01 ?hT
    (case aC => first | k_is | k_exc | kx_is)
    (case aR => first | k_is | k_exc | kx_is)
    (case ain => first | k_is | k_exc | kx_is)
    (case lin => first | k_is | k_exc | kx_is)
    (case cin => first | k_is | k_exc | kx_is)
    (case kin => first | k_is | k_exc | kx_is)
    (case anm => first | k_is | k_exc | kx_is)
    (case lnm => first | k_is | k_exc | kx_is)
    (case cnm => first | k_is | k_exc | kx_is)
    (case knm => first | k_is | k_exc | kx_is)
    (case aic => first | k_is | k_exc | kx_is)
    (case lic => first | k_is | k_exc | kx_is)
    (case cic => first | k_is | k_exc | kx_is)
    (case kic => first | k_is | k_exc | kx_is)
    (case acc => first | k_is | k_exc | kx_is)
    (case lcc => first | k_is | k_exc | kx_is)
    (case ccc => first | k_is | k_exc | kx_is)
    (case kcc => first | k_is | k_exc | kx_is)
    (case aio => first | k_is | k_exc | kx_is)
    (case lio => first | k_is | k_exc | kx_is)
    (case cio => first | k_is | k_exc | kx_is)
    (case kio => first | k_is | k_exc | kx_is)
    (case hio => first | kernel_rfl | k_is)
    (case nio => first | kernel_rfl | k_is)
    (case afo => first | k_is | k_exc | kx_is)
    (case lfo => first | k_is | k_exc | kx_is)
    (case cfo => first | k_is | k_exc | kx_is)
    (case kfo => first | k_is | k_exc | kx_is)
    (case adv => first | k_is | k_exc | kx_is)
    (case ldv => first | k_is | k_exc | kx_is)
    (case cdv => first | k_is | k_exc | kx_is)
    (case kdv => first | k_is | k_exc | kx_is)
    (case ais => first | k_is | k_exc | kx_is)
    (case lis => first | k_is | k_exc | kx_is)
    (case cis => first | k_is | k_exc | kx_is)
    (case kis => first | k_is | k_exc | kx_is)
    (case auo => first | k_is | k_exc | kx_is)
    (case luo => first | k_is | k_exc | kx_is)
    (case cuo => first | k_is | k_exc | kx_is)
    (case kuo => first | k_is | k_exc | kx_is)
    (case afl => first | k_is | k_exc | kx_is)
    (case lfl => first | k_is | k_exc | kx_is)
    (case cfl => first | k_is | k_exc | kx_is)
    (case kfl => first | k_is | k_exc | kx_is)
    (case afw => first | k_is | k_exc | kx_is)
    (case lfw => first | k_is | k_exc | kx_is)
    (case cfw => first | k_is | k_exc | kx_is)
    (case kfw => first | k_is | k_exc | kx_is)
    (case ahw => first | k_is | k_exc | kx_is)
    (case lhw => first | k_is | k_exc | kx_is)
    (case chw => first | k_is | k_exc | kx_is)
    (case khw => first | k_is | k_exc | kx_is)
    (case adi => first | k_is | k_exc | kx_is)
    (case ldi => first | k_is | k_exc | kx_is)
    (case cdi => first | k_is | k_exc | kx_is)
    (case kdi => first | k_is | k_exc | kx_is)
    (case ane => first | k_is | k_exc | kx_is)
    (case lne => first | k_is | k_exc | kx_is)
    (case cne => first | k_is | k_exc | kx_is)
    (case kne => first | k_is | k_exc | kx_is)
    (case ali => first | k_is | k_exc | kx_is)
    (case lli => first | k_is | k_exc | kx_is)
    (case cli => first | k_is | k_exc | kx_is)
    (case kli => first | k_is | k_exc | kx_is)
    (case api => first | k_is | k_exc | kx_is)
    (case lpi => first | k_is | k_exc | kx_is)
    (case cpi => first | k_is | k_exc | kx_is)
    (case kpi => first | k_is | k_exc | kx_is)
    (case ato => first | k_is | k_exc | kx_is)
    (case lto => first | k_is | k_exc | kx_is)
    (case cto => first | k_is | k_exc | kx_is)
    (case kto => first | k_is | k_exc | kx_is)
    (case apa => first | k_is | k_exc | kx_is)
    (case lpa => first | k_is | k_exc | kx_is)
    (case cpa => first | k_is | k_exc | kx_is)
    (case kpa => first | k_is | k_exc | kx_is)
    (case ama => first | k_is | k_exc | kx_is)
    (case lma => first | k_is | k_exc | kx_is)
    (case cma => first | k_is | k_exc | kx_is)
    (case kma => first | k_is | k_exc | kx_is)
    (case aca => first | k_is | k_exc | kx_is)
    (case lca => first | k_is | k_exc | kx_is)
    (case cca => first | k_is | k_exc | kx_is)
    (case kca => first | k_is | k_exc | kx_is)
    (case ase => first | k_is | k_exc | kx_is)
    (case lse => first | k_is | k_exc | kx_is)
    (case cse => first | k_is | k_exc | kx_is)
    (case kse => first | k_is | k_exc | kx_is)
    (case adr => first | k_is | k_exc | kx_is)
    (case ldr => first | k_is | k_exc | kx_is)
    (case cdr => first | k_is | k_exc | kx_is)
    (case kdr => first | k_is | k_exc | kx_is)
    (case aar => first | k_is | k_exc | kx_is)
    (case lar => first | k_is | k_exc | kx_is)
    (case car => first | k_is | k_exc | kx_is)
    (case kar => first | k_is | k_exc | kx_is)
    (case awi => first | k_is | k_exc | kx_is)
    (case lwi => first | k_is | k_exc | kx_is)
    (case cwi => first | k_is | k_exc | kx_is)
    (case kwi => first | k_is | k_exc | kx_is)
    (case alo => first | k_is | k_exc | kx_is)
    (case llo => first | k_is | k_exc | kx_is)
    (case clo => first | k_is | k_exc | kx_is)
    (case klo => first | k_is | k_exc | kx_is)
    (case ala => first | k_is | k_exc | kx_is)
    (case lla => first | k_is | k_exc | kx_is)
    (case cla => first | k_is | k_exc | kx_is)
    (case kla => first | k_is | k_exc | kx_is)
    (case hla => first | kernel_rfl | k_is)
    (case nla => first | kernel_rfl | k_is)
    (case aDi => first | k_is | k_exc | kx_is)
    (case iDi => first | k_is | k_exc | kx_is)
    (case lDi => first | k_is | k_exc | kx_is)
    (case cDi => first | k_is | k_exc | kx_is)
    (case kDi => first | k_is | k_exc | kx_is)
    (case aDc => first | k_is | k_exc | kx_is)
    (case iDc => first | k_is | k_exc | kx_is)
    (case lDc => first | k_is | k_exc | kx_is)
    (case cDc => first | k_is | k_exc | kx_is)
    (case kDc => first | k_is | k_exc | kx_is)
    (case aDp => first | k_is | k_exc | kx_is)
    (case iDp => first | k_is | k_exc | kx_is)
    (case lDp => first | k_is | k_exc | kx_is)
    (case cDp => first | k_is | k_exc | kx_is)
    (case kDp => first | k_is | k_exc | kx_is)
    (case aDa => first | k_is | k_exc | kx_is)
    (case iDa => first | k_is | k_exc | kx_is)
    (case lDa => first | k_is | k_exc | kx_is)
    (case cDa => first | k_is | k_exc | kx_is)
    (case kDa => first | k_is | k_exc | kx_is)
    (case lT => first | k_is | k_exc | kx_is)
    (case aDh => first | k_is | k_exc | kx_is)
    (case iDh => first | k_is | k_exc | kx_is)
    (case lDh => first | k_is | k_exc | kx_is)
    (case cDh => first | k_is | k_exc | kx_is)
    (case kDh => first | k_is | k_exc | kx_is)
    (case aDx => first | k_is | k_exc | kx_is)
    (case iDx => first | k_is | k_exc | kx_is)
    (case lDx => first | k_is | k_exc | kx_is)
    (case cDx => first | k_is | k_exc | kx_is)
    (case kDx => first | k_is | k_exc | kx_is)
    (case aRi => first | k_is | k_exc | kx_is)
    (case iRi => first | k_is | k_exc | kx_is)
    (case lRi => first | k_is | k_exc | kx_is)
    (case cRi => first | k_is | k_exc | kx_is)
    (case kRi => first | k_is | k_exc | kx_is)
    (case aRa => first | k_is | k_exc | kx_is)
    (case iRa => first | k_is | k_exc | kx_is)
    (case lRa => first | k_is | k_exc | kx_is)
    (case cRa => first | k_is | k_exc | kx_is)
    (case kRa => first | k_is | k_exc | kx_is)
    (case aRw => first | k_is | k_exc | kx_is)
    (case iRw => first | k_is | k_exc | kx_is)
    (case lRw => first | k_is | k_exc | kx_is)
    (case cRw => first | k_is | k_exc | kx_is)
    (case kRw => first | k_is | k_exc | kx_is)
    (case aRs => first | k_is | k_exc | kx_is)
    (case gRs => first | k_is | k_exc | kx_is)
    (case tRs => first | k_is | k_exc | kx_is)
    (case rRs => first | k_is | k_exc | kx_is)
    (case lRs => first | k_is | k_exc | kx_is)
    (case cRs => first | k_is | k_exc | kx_is)
    (case kRs => first | k_is | k_exc | kx_is)
    (case jDa => first | k_is | k_exc | kx_is)
    (case jRw => first | k_is | k_exc | kx_is)
    (case pgC => first | k_is | k_exc | kx_is)
    (case hdC => first | k_is | k_exc | kx_is)
    (case poC => first | k_is | k_exc | kx_is)
    (case saC => first | k_is | k_exc | kx_is)
    (case mkC => first | k_is | k_exc | kx_is)
    (case kcC => first | k_is | k_exc | kx_is)
    (case pgR => first | k_is | k_exc | kx_is)
    (case hdR => first | k_is | k_exc | kx_is)
    (case poR => first | k_is | k_exc | kx_is)
    (case saR => first | k_is | k_exc | kx_is)
    (case mkR => first | k_is | k_exc | kx_is)
    (case kcR => first | k_is | k_exc | kx_is)
    (case nC_sections => first | k_is | k_exc | kx_is)
    (case nC_paces => first | k_is | k_exc | kx_is)
    (case nC_ticks => first | k_is | k_exc | kx_is)
    (case nC_orders => first | k_is | k_exc | kx_is)
    (case nC_leaders => first | k_is | k_exc | kx_is)
    (case nR_sections => first | k_is | k_exc | kx_is)
    (case nR_units => first | k_is | k_exc | kx_is)
    (case z_isinstance => first | k_is | k_exc | kx_is)
    (case z_int => first | k_is | k_exc | kx_is)
    (case z_bool => first | k_is | k_exc | kx_is)
    (case z_str => first | k_is | k_exc | kx_is)
    (case z_tuple => first | k_is | k_exc | kx_is)
    (case z_len => first | k_is | k_exc | kx_is)
    (case z_all => first | k_is | k_exc | kx_is)
    (case z_enumerate => first | k_is | k_exc | kx_is)
    (case z_sorted => first | k_is | k_exc | kx_is)
    (case z_list => first | k_is | k_exc | kx_is)
    (case z_range => first | k_is | k_exc | kx_is)
    (case z_sum => first | k_is | k_exc | kx_is)
    (case z_dict => first | k_is | k_exc | kx_is)
    (case z_max => first | k_is | k_exc | kx_is)
    (case z_min => first | k_is | k_exc | kx_is)
    (case z_ValueError => first | k_is | k_exc | kx_is)
    (case v0 => first | k_is | k_exc | kx_is)
    (case v1 => first | k_is | k_exc | kx_is)
    (case v2 => first | k_is | k_exc | kx_is)
    (case v3 => first | k_is | k_exc | kx_is)
    (case v4 => first | k_is | k_exc | kx_is)
    (case v5 => first | k_is | k_exc | kx_is)
    (case v6 => first | k_is | k_exc | kx_is)
    (case aL => first | k_is | k_exc | kx_is)
    (case aK => first | k_is | k_exc | kx_is)
    (case dlN => exact ⟨_, _, _, by k_is, by (first | exact ⟨⟨_, _, rfl, rfl⟩, ⟨_, _, rfl, rfl⟩, trivial⟩ | (constructor; exact ⟨_, _, rfl, rfl⟩; constructor; exact ⟨_, _, rfl, rfl⟩; trivial)), by k_is, ⟨_, rfl⟩⟩)
    (case dlW => exact ⟨_, _, _, by k_is, by (first | exact ⟨⟨_, _, rfl, rfl⟩, ⟨_, _, rfl, rfl⟩, trivial⟩ | (constructor; exact ⟨_, _, rfl, rfl⟩; constructor; exact ⟨_, _, rfl, rfl⟩; trivial)), by k_is, ⟨_, rfl⟩⟩)
    (case dkN => exact ⟨_, _, _, by k_is, by (first | exact ⟨⟨_, _, rfl, rfl⟩, ⟨_, _, rfl, rfl⟩, trivial⟩ | (constructor; exact ⟨_, _, rfl, rfl⟩; constructor; exact ⟨_, _, rfl, rfl⟩; trivial)), by k_is, ⟨_, rfl⟩⟩)
    (case dkW => exact ⟨_, _, _, by k_is, by (first | exact ⟨⟨_, _, rfl, rfl⟩, ⟨_, _, rfl, rfl⟩, trivial⟩ | (constructor; exact ⟨_, _, rfl, rfl⟩; constructor; exact ⟨_, _, rfl, rfl⟩; trivial)), by k_is, ⟨_, rfl⟩⟩)
    (case kM => decide)
    (case eE => first | k_is | k_exc | kx_is)
    (case e0 => first | k_is | k_exc | kx_is)
    (case e1 => first | k_is | k_exc | kx_is)
    (case e2 => first | k_is | k_exc | kx_is)
    (case e3 => first | k_is | k_exc | kx_is)
    (case e4 => first | k_is | k_exc | kx_is)
    (case dEs => first | k_is | k_exc | kx_is)
    (case dEh => first | k_is | k_exc | kx_is)
    (case dEt => first | k_is | k_exc | kx_is)
    (case d0c => first | k_is | k_exc | kx_is)
    (case d0t => first | k_is | k_exc | kx_is)
    (case d1c => first | k_is | k_exc | kx_is)
    (case d1t => first | k_is | k_exc | kx_is)
    (case d2c => first | k_is | k_exc | kx_is)
    (case d2t => first | k_is | k_exc | kx_is)
    (case d3c => first | k_is | k_exc | kx_is)
    (case d3t => first | k_is | k_exc | kx_is)
    (case d4c => first | k_is | k_exc | kx_is)
    (case d4t => first | k_is | k_exc | kx_is)
    (case r2cl => first | k_is | k_exc | kx_is)
    (case r2ga => first | k_is | k_exc | kx_is)
    (case r2gg => first | k_is | k_exc | kx_is)
    (case r2sb => first | k_is | k_exc | kx_is)
    (case r2hd => first | k_is | k_exc | kx_is)
    (case r2ct => first | k_is | k_exc | kx_is)
    (case r2mr => first | k_is | k_exc | kx_is)
    (case r2ix => first | k_is | k_exc | kx_is)
    (case r2nm => first | k_is | k_exc | kx_is)
    (case r2xe => first | k_is | k_exc | kx_is)
    (case r2kv => first | k_is | k_exc | kx_is)
    (case r2k0 => first | k_is | k_exc | kx_is)
    (case r2k1 => first | k_is | k_exc | kx_is)
    (case r2k2 => first | k_is | k_exc | kx_is)
    (case r2k3 => first | k_is | k_exc | kx_is)
    (case r2k4 => first | k_is | k_exc | kx_is)
    (case r4cl => first | k_is | k_exc | kx_is)
    (case r4ga => first | k_is | k_exc | kx_is)
    (case r4gg => first | k_is | k_exc | kx_is)
    (case r4sb => first | k_is | k_exc | kx_is)
    (case r4hd => first | k_is | k_exc | kx_is)
    (case r4ct => first | k_is | k_exc | kx_is)
    (case r4mr => first | k_is | k_exc | kx_is)
    (case r4ix => first | k_is | k_exc | kx_is)
    (case r4nm => first | k_is | k_exc | kx_is)
    (case r4xe => first | k_is | k_exc | kx_is)
    (case r4kv => first | k_is | k_exc | kx_is)
    (case r4k0 => first | k_is | k_exc | kx_is)
    (case r4k1 => first | k_is | k_exc | kx_is)
    (case r4k2 => first | k_is | k_exc | kx_is)
    (case r4k3 => first | k_is | k_exc | kx_is)
    (case r4k4 => first | k_is | k_exc | kx_is)
    (case xS => first | k_is | k_exc | kx_is)
    (case saS => first | k_is | k_exc | kx_is)
    (case kS => first | k_is | k_exc | kx_is)
    (case aSi => first | k_is | k_exc | kx_is)
    (case tSi => first | k_is | k_exc | kx_is)
    (case lSi => first | k_is | k_exc | kx_is)
    (case cSi => first | k_is | k_exc | kx_is)
    (case kSi => first | k_is | k_exc | kx_is)
    (case qhn => first | k_is | k_exc | kx_is)
    (case qht => first | k_is | k_exc | kx_is)
    (case n4q => first | k_is | k_exc | kx_is)
    (case n4k => first | k_is | k_exc | kx_is)
    (case n4t => first | k_is | k_exc | kx_is)
    (case qha => first | k_is | k_exc | kx_is)
    (case qhm => first | k_is | k_exc | kx_is)
    (case qsf => first | k_is | k_exc | kx_is)
    (case qwg => first | k_is | k_exc | kx_is)
    (case qwt => first | k_is | k_exc | kx_is)
    (case neP01 => decide)
    (case hT => intro P hP; exact hT8 P (by rcases List.mem_cons.mp hP with z | hP; (rw [z]; k_mem); (rw [List.mem_singleton.mp hP]; k_mem)))
