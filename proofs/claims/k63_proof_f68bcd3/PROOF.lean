import PyProof.Rows.All
import Wide.All
import OpenK.AllK
import Wide.FinOn
import KE.KSortKeySt
import KE.KLam
import PyProof.TupleOfSeq
import HandS.ForMost
import HandS.SortKw
import HandS.Lambda
import HandS.Nested
import HandS.IsInst
import HandS.DictComp
import HandS.Walk
import HandS.Wide
import HandS.EndTab
import OpenK.KMeth
import OpenK.KOps
import HandS.Star
import HandS.SlotsOwn
import HandS.ClsMeth
import HandS.Property
import HandS.More
import KE.GoesMore
import KE.GoesEnum
import PyProof.EnumMake
import PyProof.StrOps2
import HandS.NoneIn
import HandS.Conv
import HandS.Defaults
import HandS.WordsDict
import PyProof.GenComp
import HandS.GenBody
import HandS.GenYield
import HandS.GenList
import HandS.ForDict
import HandS.Words
import HandS.MapSum
import HandS.Small
import HandS.Text
import HandS.Sort
import HandS.Style
import HandS.Iter
import HandS.List
import PyProof.MinMaxWalk
import HandS.TupLe
import KE.LtSeq
import PyProof.P3Eq
import HandS.SortOrd
import KE.KSortTup
import PyProof.NeKinds
import KE.KNestM
import PySem.Challenge.RW_slowleaders_k63_whole_wide_enough_by_all
/-! A stable order by int keys: the one list that is ordered and keeps the rows of equal keys. -/
namespace OwnR
def ins {α : Type} (p : Int × α) : List (Int × α) → List (Int × α)
  | [] => [p]
  | q :: r => if p.1 ≤ q.1 then p :: q :: r else q :: ins p r
def isort {α : Type} : List (Int × α) → List (Int × α)
  | [] => []
  | p :: r => ins p (isort r)
section
variable {α β : Type}
theorem ins_perm (p : Int × α) : ∀ l : List (Int × α), (ins p l).Perm (p :: l)
  | [] => List.Perm.refl _
  | q :: r => by
    unfold ins
    split
    · exact List.Perm.refl _
    · exact ((ins_perm p r).cons q).trans (List.Perm.swap p q r)
theorem isort_perm : ∀ l : List (Int × α), (isort l).Perm l
  | [] => List.Perm.refl _
  | p :: r => (ins_perm p _).trans ((isort_perm r).cons p)
theorem ins_up (p : Int × α) : ∀ l : List (Int × α), l.Pairwise (fun a b => a.1 ≤ b.1) → (ins p l).Pairwise (fun a b => a.1 ≤ b.1)
  | [], _ => by simp [ins]
  | q :: r, h => by
    unfold ins
    have h1 := List.pairwise_cons.mp h
    split
    · rename_i hpq
      refine List.pairwise_cons.mpr ⟨fun b hb => ?_, h⟩
      rcases List.mem_cons.mp hb with rfl | hb
      · exact hpq
      · exact Int.le_trans hpq (h1.1 b hb)
    · rename_i hpq
      refine List.pairwise_cons.mpr ⟨fun b hb => ?_, ins_up p r h1.2⟩
      rcases List.mem_cons.mp ((ins_perm p r).mem_iff.mp hb) with rfl | hb
      · omega
      · exact h1.1 b hb
theorem isort_up : ∀ l : List (Int × α), (isort l).Pairwise (fun a b => a.1 ≤ b.1)
  | [] => List.Pairwise.nil
  | p :: r => ins_up p _ (isort_up r)
theorem ins_row (p : Int × α) (z : Int) : ∀ l : List (Int × α), (ins p l).filter (fun a => a.1 == z) = (p :: l).filter (fun a => a.1 == z)
  | [] => rfl
  | q :: r => by
    unfold ins
    split
    · rfl
    · rename_i hpq
      rw [List.filter_cons, ins_row p z r]
      by_cases h1 : p.1 = z
      · have h2 : (q.1 == z) = false := by simp; omega
        simp [List.filter_cons, h1, h2]
      · have h3 : (p.1 == z) = false := by simp [h1]
        simp [List.filter_cons, h3]
theorem isort_row (z : Int) : ∀ l : List (Int × α), (isort l).filter (fun a => a.1 == z) = l.filter (fun a => a.1 == z)
  | [] => rfl
  | p :: r => by
    unfold isort
    rw [ins_row, List.filter_cons, List.filter_cons, isort_row z r]
theorem eq_of_rows : ∀ l k : List (Int × α), l.Pairwise (fun a b => a.1 ≤ b.1) → k.Pairwise (fun a b => a.1 ≤ b.1) → (∀ z, l.filter (fun a => a.1 == z) = k.filter (fun a => a.1 == z)) → l = k
  | [], [], _, _, _ => rfl
  | [], b :: k, _, _, h => by
    have := h b.1
    simp at this
  | a :: l, [], _, _, h => by
    have := h a.1
    simp at this
  | a :: l, b :: k, hl, hk, h => by
    have l1 := List.pairwise_cons.mp hl
    have k1 := List.pairwise_cons.mp hk
    have hab : a.1 = b.1 := by
      rcases Int.lt_trichotomy a.1 b.1 with c | c | c
      · exfalso
        have e := h a.1
        rw [List.filter_cons, if_pos (by simp)] at e
        have m : a ∈ (b :: k).filter (fun x => x.1 == a.1) := by rw [← e]; exact List.mem_cons_self
        have m1 := List.mem_filter.mp m
        rcases List.mem_cons.mp m1.1 with e1 | e1
        · rw [e1] at c; omega
        · have := k1.1 a e1; omega
      · exact c
      · exfalso
        have e := h b.1
        have m : b ∈ (a :: l).filter (fun x => x.1 == b.1) := by
          rw [e, List.filter_cons, if_pos (by simp)]; exact List.mem_cons_self
        have m1 := List.mem_filter.mp m
        rcases List.mem_cons.mp m1.1 with e1 | e1
        · rw [e1] at c; omega
        · have := l1.1 b e1; omega
    have e := h a.1
    rw [List.filter_cons, if_pos (by simp), List.filter_cons, if_pos (by simp [hab])] at e
    have e0 : a = b := (List.cons.inj e).1
    subst e0
    refine congrArg _ (eq_of_rows l k l1.2 k1.2 fun z => ?_)
    have ez := h z
    by_cases c : a.1 = z
    · rw [List.filter_cons, if_pos (by simp [c]), List.filter_cons, if_pos (by simp [c])] at ez
      exact (List.cons.inj ez).2
    · rw [List.filter_cons, if_neg (by simp [c]), List.filter_cons, if_neg (by simp [c])] at ez
      exact ez
theorem isort_unique {l k : List (Int × α)} (h1 : k.Pairwise (fun a b => a.1 ≤ b.1)) (h2 : ∀ z, k.filter (fun a => a.1 == z) = l.filter (fun a => a.1 == z)) : k = isort l :=
  eq_of_rows k (isort l) h1 (isort_up l) fun z => (h2 z).trans (isort_row z l).symm
theorem ins_map (f : α → β) (p : Int × α) : ∀ l : List (Int × α), ins (p.1, f p.2) (l.map fun q => (q.1, f q.2)) = (ins p l).map fun q => (q.1, f q.2)
  | [] => rfl
  | q :: r => by
    simp only [List.map_cons, ins]
    split
    · rfl
    · rw [ins_map f p r, List.map_cons]
theorem isort_map (f : α → β) : ∀ l : List (Int × α), isort (l.map fun q => (q.1, f q.2)) = (isort l).map fun q => (q.1, f q.2)
  | [] => rfl
  | p :: r => by
    simp only [List.map_cons, isort]
    rw [isort_map f r, ins_map f p]
/-- the items in the order of their keys, stable -/
def sortBy (key : α → Int) (l : List α) : List α := (isort (l.map fun x => (key x, x))).map (·.2)
theorem sortBy_perm (key : α → Int) (l : List α) : (sortBy key l).Perm l := by
  have h := (isort_perm (l.map fun x => (key x, x))).map (·.2)
  rw [List.map_map] at h
  have e : ((fun x : Int × α => x.2) ∘ fun x => (key x, x)) = id := rfl
  rw [e, List.map_id] at h
  exact h
theorem sortBy_map (f : α → β) (k1 : α → Int) (k2 : β → Int) (l : List α) (h : ∀ x ∈ l, k2 (f x) = k1 x) : sortBy k2 (l.map f) = (sortBy k1 l).map f := by
  unfold sortBy
  have e : ((l.map f).map fun x => (k2 x, x)) = (l.map fun x => (k1 x, x)).map fun q => (q.1, f q.2) := by
    rw [List.map_map, List.map_map]
    refine List.map_congr_left fun x hx => ?_
    show (k2 (f x), f x) = (k1 x, f x)
    rw [h x hx]
  rw [e, isort_map, List.map_map, List.map_map]
  rfl
theorem sortBy_congr (k1 k2 : α → Int) (l : List α) (h : ∀ x ∈ l, k2 x = k1 x) : sortBy k2 l = sortBy k1 l := by
  have := sortBy_map (fun x => x) k1 k2 l h
  simpa using this
end
end OwnR

set_option Elab.async false
set_option linter.all false
set_option maxRecDepth 100000
set_option maxHeartbeats 2000000
namespace OwnR
open PySem PySem.Spec PyProof.Rows L2 LamX
/-! ### sorted(xs, key=lambda y: ..) -/
section
variable {prog : Program} {w : World} {A : Around} {E : Value → Shared → Prop} {s : Shared} {g0 : Heap} {L : Addr} {m : Str → Option Value} {news : List (Addr × Obj)} {vs : List Value}
/-- the new list is sorted by its keys and handed out -/
theorem sort_tail {R : PySem.Fin → Shared → Prop} {kz : List Int} {g : Addr} (F : Fr g0 L s.heap m) (N : News g0 L s.heap news) (hl : kz.length = vs.length) (hz : vs.length ≤ sizeLine)
    (turn : ∀ (i : Nat) (v : Value) (k : Int), vs[i]? = some v → kz[i]? = some k → ∀ (h : Heap) (tk : Nat) (own : List (Addr × Obj)), Fr g0 L h m → News g0 L h (news ++ own) →
      wpAny (model prog w) A.in1 (call (.ref g) [v]) (KskEnd g0 L m (news ++ own) k { s with heap := h, toks := tk }) (fun _ _ => False) { s with heap := h, toks := tk })
    (done : ∀ h' tk out c, Fr g0 L h' m → News g0 L h' ((s.heap.objs.size, seqObj "list" out c) :: news) → KskOutSt false kz vs out.toList → R (.done (.ret (.ref s.heap.objs.size))) { s with heap := h', toks := tk }) :
    wpAny (model prog w) A (newList vs >>= fun l => holding [l] (call (.builtin "list.sort") [l] [(Str.ofString "key", .ref g)]) >>= fun _ => ret l) R E s := by
  have hL : L < s.heap.objs.size := F.ns.lt
  have at0 : (s.heap.push (seqObj "list" vs.toArray 0)).get? s.heap.objs.size = some (seqObj "list" vs.toArray 0) := Heap.get?_push_size _ rfl
  have kp : ∀ b o, s.heap.get? b = some o → (s.heap.push (seqObj "list" vs.toArray 0)).get? b = some o := fun b o e => Heap.get?_push_of_some _ e
  refine wpAny_bind (wpAny_newList ?_ hz)
  show wpAny _ _ _ _ _ { s with heap := s.heap.push (seqObj "list" vs.toArray 0) }
  refine wpAny_bind (wpAny_holding (wpAny_call_entry_kw slot_list_sort ⟨_, at0, rfl⟩ entry_list_sort ?body (ksk_l1 _ _)))
  case body =>
    have et := ksk_t1 g s.heap.objs.size
    show wpAny (model prog w) A.in1 (Builtin.«list.sort» ⟨[.ref s.heap.objs.size], [(Str.ofString "key", .ref g)]⟩) _ _ _
    rw [et]
    refine ksk_sortSt (h₀ := g0) (L := L) (m := m) (news := news) (kz := kz) (vs := vs) (s := { s with heap := s.heap.push (seqObj "list" vs.toArray 0) })
      (F.kept kp) (N.grown kp) at0 (Nat.ne_of_gt hL) (Heap.get?_none_of_le (Nat.le_trans F.above (Nat.le_of_lt hL))) (fun p hp => Nat.ne_of_lt (Heap.lt_size (N p hp).1)) hl hz turn
      fun h' tk out c F' N' k' => ⟨_, rfl, wpAny_pure (done h' tk out c F' N' k')⟩
end
/-- a value of the heap, without its token -/
def toV : Value → V
  | .none => .non
  | .bool b => .bl b
  | .int i _ => .int i
  | .str x _ => .str x
  | .bytes b _ => .byt b
  | .float b _ => .flt b
  | .ref a => .ref a
  | .type n => .ty n
  | _ => .non
theorem toV_of {x : V} {u : Value} (r : RelV x u) : toV u = x := by
  cases x with
  | non => cases (show u = Value.none from r); rfl
  | bl b => cases (show u = Value.bool b from r); rfl
  | int i => obtain ⟨t, e⟩ := (show ∃ t, u = Value.int i t from r); cases e; rfl
  | str x => obtain ⟨t, e⟩ := (show ∃ t, u = Value.str x t from r); cases e; rfl
  | byt b => obtain ⟨t, e⟩ := (show ∃ t, u = Value.bytes b t from r); cases e; rfl
  | flt b => obtain ⟨t, e⟩ := (show ∃ t, u = Value.float b t from r); cases e; rfl
  | ref a => cases (show u = Value.ref a from r); rfl
  | ty n => cases (show u = Value.type n from r); rfl
theorem toV_map {xs : List V} {us : List Value} (r : Vals xs us) : us.map toV = xs := by
  induction r with
  | nil => rfl
  | cons a _ ih => rw [List.map_cons, ih, toV_of a]
theorem vals_toV : ∀ {us : List Value}, (∀ u ∈ us, RelV (toV u) u) → Vals (us.map toV) us
  | [], _ => .nil
  | u :: us, h => .cons (h u List.mem_cons_self) (vals_toV fun v hv => h v (List.mem_cons_of_mem _ hv))
theorem vals_all {xs : List V} {us : List Value} (r : Vals xs us) : ∀ u ∈ us, RelV (toV u) u := by
  induction r with
  | nil => intro u hu; cases hu
  | cons a _ ih =>
    intro u hu
    rcases List.mem_cons.mp hu with rfl | hu
    · rw [toV_of a]; exact a
    · exact ih u hu
/-- what comes out, by values -/
theorem out_of {kz : List Int} {vs out : List Value} {xs : List V} (hl : kz.length = vs.length) (r : Vals xs vs) (k : KskOutSt false kz vs out) :
    ∃ ys, Vals ys out ∧ ys = (isort (kz.zip xs)).map (·.2) := by
  obtain ⟨ps, hp, ho, hs, hst⟩ := k
  have hs' : ps.Pairwise (fun a b => a.1 ≤ b.1) := hs
  have e := isort_unique hs' hst
  have e2 : kz.zip xs = (kz.zip vs).map fun q => (q.1, toV q.2) := by
    rw [← toV_map r, List.zip_map_right]
    rfl
  refine ⟨out.map toV, vals_toV fun u hu => ?_, ?_⟩
  · rw [ho] at hu
    obtain ⟨p, hm, rfl⟩ := List.mem_map.mp hu
    exact vals_all r _ (List.of_mem_zip (hp.mem_iff.mp hm)).2
  · rw [e2, isort_map, ho, e, List.map_map, List.map_map]
    rfl
/-- what a key's body gives for the value u: the int k, nothing changed -/
def KeyRun (X : Cx) (par : Str) (body : Expr) (scope : Scope) (s : Shared) (u : Value) (k : Int) : Prop :=
  ∀ (A : Around) (L' f c' : Addr) (h1 : Heap) (tk : Nat), (∀ b o, s.heap.get? b = some o → b ≠ X.env.locals → h1.get? b = some o) → h1.Ns L' (fun y => ([(par, u)] : List (Str × Value)).reverse.lookup y) →
    wpAny (model X.prog X.w) A (eval body (PySem.W.envX (X.env.qual ++ "<lambda>") scope L' f (.ref c') (cloFrom X.env.cells scope.names []))) (fun v s' => ∃ t tk', v = .int k t ∧ s' = { s with heap := h1, toks := tk' }) (fun _ _ => False)
      { s with heap := h1, toks := tk }
/-- the lambda's scope: its parameter, no cell of its own, captured names of the maker -/
structure LamP (sc scope : Scope) (par : Str) : Prop where
  kind : scope.kind = .function
  co : scope.isCoroutine = false
  gen : scope.isGenerator = false
  cell : ∀ y ∈ scope.names, y.2 ≠ .cell
  par : scope.names.lookup par = some .local
  free : ∀ y ∈ scope.names, y.2 = .free → sc.names.lookup y.1 = some .cell ∨ sc.names.lookup y.1 = some .free
def lamPB (sc scope : Scope) (par : Str) : Bool :=
  decide (scope.kind = .function) && !scope.isCoroutine && !scope.isGenerator && decide (scope.names.lookup par = some .local) && scope.names.all fun y => !decide (y.2 = .cell) && (!decide (y.2 = .free) || decide (sc.names.lookup y.1 = some .cell) || decide (sc.names.lookup y.1 = some .free))
theorem lamP_by {sc scope : Scope} {par : Str} (h : lamPB sc scope par = true) : LamP sc scope par := by
  unfold lamPB at h
  simp only [Bool.and_eq_true, Bool.or_eq_true, Bool.not_eq_true', decide_eq_true_eq, decide_eq_false_iff_not, List.all_eq_true] at h
  obtain ⟨⟨⟨⟨h1, h2⟩, h3⟩, h4⟩, h5⟩ := h
  refine ⟨h1, h2, h3, fun y hy => (h5 y hy).1, h4, fun y hy e => ?_⟩
  rcases (h5 y hy).2 with (z | z) | z
  · exact absurd e z
  · exact .inl z
  · exact .inr z
theorem LamP.has {X : Cx} {scope : Scope} {par : Str} (l : LamP X.env.scope scope par) (ok : X.Ok) : ∀ y ∈ scope.names, y.2 = .free → ∃ c, X.env.cells.lookup y.1 = some c := fun y hy e =>
  (l.free y hy e).elim (fun z => ok.has _ (.inl z)) fun z => ok.has _ (.inr z)
/-- the keys' readings: σ, H ahead; the item; its key -/
abbrev TKey := L2.St → Hp → V → Int → Prop
structure PKey (X : Cx) (par : Str) (body : Expr) (scope : Scope) (r : TKey) : Prop where
  run : ∀ (pins : List (Addr × Obj)) (s : Shared) (σ : L2.St) (H : Hp) (x : V) (u : Value) (k : Int), Inv X pins σ H s → RelV x u → r σ H x k → KeyRun X par body scope s u k
/-- sorted(xs, key=lambda y: body): T the tables of code objects -/
def sortWant (K : PySem.W.Frag) (T : List (Addr × Str)) (r : TKey) (σ : L2.St) (Q : VK) : V → Hp → Prop := fun x H1 => ∃ (p : Addr) (xs : List V) (ks : List Int), x = .ref p ∧ (SqL K H1 p xs ∨ SqT K H1 p xs) ∧ ks.length = xs.length ∧
  Tabs T H1 ∧ (∀ H2, ExtN H1 H2 → ∀ (i : Nat) (x : V) (k : Int), xs[i]? = some x → ks[i]? = some k → r σ H2 x k) ∧
  ∀ H2 D, ExtN H1 H2 → Tabs T H2 → H2 D = none → Q (.ref D) (upd H2 D (.lst ((isort (ks.zip xs)).map (·.2))))
def tSortLam (K : PySem.W.Frag) (T : List (Addr × Str)) (te : TE) (r : TKey) : TE := fun σ H Q => te σ H (sortWant K T r σ Q)
def one1 (g : V → Hp → Prop) : List V → Hp → Prop := fun vs H => match vs with
  | [x] => g x H
  | _ => False
theorem one1_of {g : V → Hp → Prop} {vs : List V} {H : Hp} (h : one1 g vs H) : ∃ x, vs = [x] ∧ g x H := by
  match vs, h with
  | [x], h => exact ⟨x, rfl, h⟩
theorem ns_one {h : Heap} {a : Addr} {m m' : Str → Option Value} (x : h.Ns a m) (y : h.Ns a m') : m = m' := by
  obtain ⟨o, es, ep, ho, hd, _, hm⟩ := x
  obtain ⟨o', es', ep', ho', hd', _, hm'⟩ := y
  rw [ho] at ho'
  cases ho'
  rw [hd] at hd'
  cases hd'
  funext z
  rw [← hm z, hm' z]
/-- a new object, all others kept but the frame's, whose names stay -/
theorem inv_laidL {X : Cx} {pins : List (Addr × Obj)} {σ : L2.St} {H : Hp} {s : Shared} {h' : Heap} {D tk : Nat} {o : HO} {m : Str → Option Value} (I : Inv X pins σ H s) (hn : s.heap.Ns X.env.locals m) (hn' : h'.Ns X.env.locals m)
    (k : ∀ b u, s.heap.get? b = some u → b ≠ X.env.locals → h'.get? b = some u) (hD : s.heap.objs.size ≤ D) (new : ObjOk X.prog X.w (upd H D o) h' D o) : Inv X pins σ (upd H D o) { s with heap := h', toks := tk } := by
  have fD : H D = none := I.hok.fresh hD
  have old : ∀ b u, s.heap.get? b = some u → b ≠ D := fun b u e => Nat.ne_of_lt (Nat.lt_of_lt_of_le (Heap.lt_size e) hD)
  have trL : ∀ b u, H b = some u → b ≠ X.env.locals := fun b u e => ne_of_none e I.free
  refine I.step (g' := s.gens) (d' := s.drawn) (t' := tk) (ch := []) (fun _ z => nomatch z) (fun b u nb _ _ e _ => k b u e nb) (fun b u nb _ _ e _ => ⟨u.slots, k b u e nb⟩) (fun b u _ e n => by rw [upd_ne (old b u e)]; exact n) (fun b u _ e => ?_)
    (fun b ys e => by rw [upd_ne (ne_of_none e fD)]; exact e) (fun b u v e => by rw [upd_ne (ne_of_none e fD)]; exact e) (fun b ps e => ⟨#[], by rw [upd_ne (ne_of_none e fD), e]; simp⟩) (fun m' hm => ?_) (fun b u e => ?_) I.bare
  · by_cases hb : b = X.env.locals
    · obtain ⟨ob, _, _, e1, _⟩ := hn'
      exact ⟨ob, by rw [hb]; exact e1⟩
    · exact ⟨u, k b u e hb⟩
  · rw [ns_one hm hn]
    exact hn'
  · by_cases hb : b = D
    · rw [hb, upd_same] at e
      cases e
      rw [hb]
      exact new
    · rw [upd_ne hb] at e
      refine (I.hok b u e).stay (fun c v hc q => k c v q ?_) (fun c q => by rw [upd_ne (ne_of_none q fD)]; exact q) fun c ys q => by rw [upd_ne (ne_of_none q fD)]; exact q
      rcases hc with z | z
      · rw [z]
        exact trL b u e
      · exact trL c _ z
theorem seq_at {X : Cx} {pins : List (Addr × Obj)} {σ : L2.St} {H : Hp} {s : Shared} {p : Addr} {xs : List V} (I : Inv X pins σ H s) (h : SqL X.K H p xs ∨ SqT X.K H p xs) :
    ∃ (its : List Value) (T : String) (o : Obj) (n : Nat), Vals xs its ∧ (T = "list" ∨ T = "tuple") ∧ s.heap.get? p = some o ∧ o.cls = .type T ∧ o.data = .seq its.toArray n ∧ xs.length ≤ sizeLine := by
  rcases h with h | h
  · obtain ⟨its, r, pl, hz⟩ := I.list h
    obtain ⟨o, ho, hc, n, hd⟩ := pl.isList
    exact ⟨its, "list", o, n, r, .inl rfl, ho, hc, hd, hz⟩
  · obtain ⟨its, r, ⟨o, ho, hc, n, hd⟩, hz⟩ := I.tuple h
    exact ⟨its, "tuple", o, n, r, .inr rfl, ho, hc, hd, hz⟩
theorem pe_sortLam {X : Cx} {T : List (Addr × Str)} {c P : Addr} {te : TE} {r : TKey} {e body : Expr} {params : Arguments} {scope : Scope} {par : Str} {p1 pos lpos kpos : Pos} (hr : Room 2 X.A) (TB : TabB X.base X.mg c P) (hcode : X.env.code = .ref c)
    (hm : (P, X.env.qual ++ "<lambda>") ∈ T) (hu : ∀ p ∈ T, p.1 = P → p.2 = X.env.qual ++ "<lambda>") (hg : Gl X "sorted") (hms : X.mg "sorted" = none) (lp : LamP X.env.scope scope par) (he : PE X e te) (hk : PKey X par body scope r)
    (hdef : defaultsOf params X.env = ([], []) := by rfl)
    (hb : ∀ (cl : List (Str × Addr)) (pm cdv ct v : Value), bindArgs (PySem.W.kla_fn "<lambda>" (X.env.qual ++ "<lambda>") params body scope cl pm cdv ct) ⟨[v], []⟩ = pure [(par, v)] := by intros; rfl)
    (h0 : starEach [e] X.env = (false, eval e X.env) :: starEach [] X.env := by rfl)
    (h1 : backTo pos (starEach [e] X.env) = (false, eval e X.env) :: backTo pos (starEach [] X.env) := by rfl) (h2 : (backTo pos (starEach [e] X.env)).any (·.1) = false := by rfl)
    (h3 : (backToKw pos (keywordEach [⟨some "key", .Lambda params body scope lpos, kpos⟩] X.env)).all (·.1.isSome) = true := by rfl) (h4 : (backToKw pos (keywordEach [⟨some "key", .Lambda params body scope lpos, kpos⟩] X.env)).any (·.1.isNone) = false := by rfl)
    (h5 : (backToKw pos (keywordEach [⟨some "key", .Lambda params body scope lpos, kpos⟩] X.env)).filterMap (·.1) = [Str.ofString "key"] := by rfl) :
    PE X (.Call (.Name "sorted" p1) [e] [⟨some "key", .Lambda params body scope lpos, kpos⟩] pos) (tSortLam X.K T te r) := by
  have hpa : PA X [e] (tCons te tNil) := pa_cons he pa_nil h0
  refine ⟨fun pins s σ H Q I h => ?_⟩
  refine wpAny_Call_Name_kw (ld_blt I hg hms (by decide +kernel : bootBuiltins "sorted" = some (.builtin "sorted")) ?_)
  refine PyProof.Rows.callWith_kw (thn (hpa.run pos pins s σ H (one1 (sortWant X.K T r σ Q)) I h) fun us s1 hs1 => ?_) h1 h2 h3 h4
  obtain ⟨vs, H1, I1, rv, hq⟩ := hs1
  obtain ⟨x, rfl, hq⟩ := one1_of hq
  obtain ⟨p, xs, ks, rfl, hsq, hlk, hT, hR, q⟩ := hq
  obtain ⟨u1, rfl, ru⟩ := vals1 rv
  cases (show u1 = Value.ref p from ru)
  rw [h5]
  show wpAny _ _ (evalAll ((do let v ← eval (.Lambda params body scope lpos) X.env; standAt pos; pure v) :: [])) _ _ s1
  refine wpAny_evalAll_cons (wpAny_bind (lam_make2 I1 TB hcode hm hu hT hdef (lp.has I1.ok) fun f c' pm ctv H2 s2 I2 eN T2 hf hfn hfs hc => wpAny_bind (wpAny_standAt (wpAny_pure (wpAny_pure ?_)))))
  show wpAny _ _ (call (.builtin "sorted") [.ref p] [(Str.ofString "key", .ref f)]) _ _ s2
  have hsq2 : SqL X.K H2 p xs ∨ SqT X.K H2 p xs := by
    rcases hsq with ((z | ⟨o, z⟩) | z) | ((z | ⟨o, z⟩) | z)
    · exact .inl (.inl (.inl (eN _ _ z (fun _ y => nomatch y))))
    · exact .inl (.inl (.inr ⟨o, eN _ _ z (fun _ y => nomatch y)⟩))
    · exact .inl (.inr z)
    · exact .inr (.inl (.inl (eN _ _ z (fun _ y => nomatch y))))
    · exact .inr (.inl (.inr ⟨o, eN _ _ z (fun _ y => nomatch y)⟩))
    · exact .inr (.inr z)
  obtain ⟨its, Ty, o, n, rI, hTy, ho, hcl, hd, hz⟩ := seq_at I2 hsq2
  have hli := rI.length
  refine PyProof.Rows.call_function_entry_kw kind_sorted plain_sorted entry_sorted (ksk_s1 _ _) ?_
  show wpAny _ _ (checkCount "sorted" 1 1 1 >>= fun _ => collect (.ref p) >>= fun vs => newList vs >>= fun l => holding [l] (call (.builtin "list.sort") [l] [(Str.ofString "key", .ref f)]) >>= fun _ => ret l) _ _ _
  refine wpAny_bind (m := checkCount "sorted" 1 1 1) (wpAny_pure (wpAny_bind (wpAny_collect_seq p hTy ho hcl hd (fun h' kp => ?_) (by rw [List.size_toArray]; omega))))
  have e1 : its.toArray.toList = its := by simp
  rw [e1]
  have I3 : Inv X pins σ H2 { s2 with heap := h', toks := s2.toks } := I2.kept kp
  obtain ⟨m, F⟩ := I3.fr
  have N := news_all (g := X.base) (h := h') (L := X.env.locals)
  have keepAll : ∀ {hh : Heap} {mm : Str → Option Value} {own : List (Addr × Obj)}, Fr X.base X.env.locals hh mm → News X.base X.env.locals hh (allNews X.base h' X.env.locals ++ own) → ∀ b ob, h'.get? b = some ob → b ≠ X.env.locals → hh.get? b = some ob := by
    intro hh mm own F' N' b ob eb nb
    cases q : X.base.get? b with
    | some ob' =>
      have := I3.bk b ob' q
      rw [eb] at this
      cases this
      exact F'.keep b _ q
    | none => exact (N' (b, ob) (List.mem_append_left _ (mem_allNews nb q eb))).1
  have hr1 : Room 1 X.A.in1 := hr.in1
  refine sort_tail (kz := ks) F N (by rw [hlk, hli]) (by rw [← hli]; exact hz) (fun i v k hv hk' hh tk own F' N' => ?_) fun hh tk out cc F' N' ko => ?_
  · have hi : i < its.length := (List.getElem?_eq_some_iff.mp hv).1
    obtain ⟨x, hx⟩ : ∃ x, xs[i]? = some x := ⟨_, List.getElem?_eq_getElem (by omega)⟩
    obtain ⟨v', hv', rx⟩ := rI.get hx
    have ev : v' = v := Option.some.inj (hv'.symm.trans hv)
    subst ev
    have nfL : f ≠ X.env.locals := fun z => by
      obtain ⟨mL, ⟨oL, _, _, eL, dL, _⟩, _⟩ := I2.loc
      rw [← z, hf] at eL
      cases eL
      cases dL
    have hff := keepAll F' N' f _ (kp _ _ hf) nfL
    obtain ⟨⟨oc, cv, ct, d1, d2, d3⟩, _, _⟩ := I2.hok c' _ hc
    have hcc := keepAll F' N' c' _ (kp _ _ d1) (ne_of_none hc I2.free)
    refine wpAny_call (PySem.W.kla_callFunE hr.in1.in1.depth hff rfl lp.co lp.gen rfl ⟨c', oc, cv, ct, rfl, hcc, d2, d3⟩ ?_)
    rw [hb]
    refine wpAny_pure (wpAny_newFunctionEnv lp.cell (fun y hy => ?_) (fun h₁ hns hsb => ⟨(I2.ok.mod.nolimit.keeps F'.keep).fresh _ hsb, ?_⟩) lp.kind)
    · rw [List.mem_singleton.mp hy]
      exact lp.par
    · have kp1 : ∀ b ob, hh.get? b = some ob → h₁.get? b = some ob := fun b ob e => hsb.extBut b ob (Nat.ne_of_lt (Heap.lt_size e)) (Heap.get?_push_of_some _ e)
      show codeAny _ _ (.expr body (PySem.W.envX (X.env.qual ++ "<lambda>") scope hh.objs.size f (.ref c') (cloFrom X.env.cells scope.names []))) _ _
      refine PySem.W.kla_codeExpr (wpAny_mono (hk.run pins _ σ H2 x v' k I3 rx (hR H2 eN i x k hx hk') _ hh.objs.size f c' h₁ (tk + 1) (fun b ob e nb => kp1 b ob (keepAll F' N' b ob e nb)) hns) (fun v s' hq => ?_) fun _ _ z => z.elim)
      obtain ⟨t, tk', ev, es⟩ := hq
      exact ⟨h₁, tk', t, es, ev, ⟨F'.ns.keeps kp1, fun b ob e => kp1 b ob (F'.keep b ob e), F'.above⟩, fun z hz => ⟨kp1 _ _ (N' z hz).1, (N' z hz).2⟩⟩
  · obtain ⟨ys, r2, ey⟩ := out_of (by rw [hlk, hli]) rI ko
    have lo : ys.length = xs.length := by
      rw [ey, List.length_map, (isort_perm _).length_eq, List.length_zip, hlk, Nat.min_self]
    have at1 := (N' _ List.mem_cons_self).1
    have I4 := inv_laidL (D := h'.objs.size) (tk := tk) (o := .lst ys) I3 F.ns F'.ns (fun b ob e nb => keepAll (own := []) F' (fun z hz => N' z (List.mem_cons_of_mem _ (by simpa using hz))) b ob e nb) (Nat.le_refl _)
      ⟨by rw [lo]; exact hz, out.toList, cc, r2, by rw [Array.toArray_toList]; exact at1⟩
    refine ⟨_, rfl, .ref h'.objs.size, _, I4, rfl, ?_⟩
    rw [ey]
    exact q H2 h'.objs.size eN T2 (I3.hok.fresh (Nat.le_refl _))
end OwnR

set_option Elab.async false
set_option linter.all false
set_option maxRecDepth 100000
set_option maxHeartbeats 2000000
namespace OwnR
open PySem PySem.Spec PyProof.Rows L2 LamX
/-! ### two bodies of keys: d[y], d captured; y[n] of a tuple -/
/-- what is read of a tracked object stays where all but the frame is kept -/
theorem ok_keepL {X : Cx} {pins : List (Addr × Obj)} {σ : L2.St} {H : Hp} {s : Shared} {h' : Heap} {b : Addr} {u : HO} (I : Inv X pins σ H s) (k : ∀ b o, s.heap.get? b = some o → b ≠ X.env.locals → h'.get? b = some o) (e : H b = some u) : ObjOk X.prog X.w H h' b u := by
  refine (I.hok b u e).stay (fun c v hc q => k c v q ?_) (fun _ q => q) fun _ _ q => q
  rcases hc with z | z
  · rw [z]
    exact ne_of_none e I.free
  · exact ne_of_none z I.free
theorem rd_keepL {X : Cx} {pins : List (Addr × Obj)} {σ : L2.St} {H : Hp} {s : Shared} {h' : Heap} {b : Addr} {u : HO} (I : Inv X pins σ H s) (k : ∀ b o, s.heap.get? b = some o → b ≠ X.env.locals → h'.get? b = some o) (e : Rd H b u) : ObjOk X.prog X.w H h' b u := by
  rcases e with e | ⟨o, e⟩
  · exact ok_keepL I k e
  · exact (ok_keepL I k e).2
def keyDict (j : Nat) : TKey := fun σ H x k => ∃ (a : Addr) (kvs : List (Key × V)) (key : Key), σ[j]? = some (some (.ref a)) ∧ Rd H a (.dK kvs) ∧ x = kV key ∧ valV kvs key = some (.int k)
theorem pk_dict {X : Cx} {par d : Str} {scope : Scope} {p1 p2 p3 : Pos} {j : Nat} (hN : X.N[j]? = some d) (hd : (d, NameKind.free) ∈ scope.names) (hl : scope.names.lookup d = some .free) (lp : LamP X.env.scope scope par)
    (hv : Vis X.env.scope d) (n1 : (d == ("__debug__" : Str)) = false := by decide) (n2 : (par == ("__debug__" : Str)) = false := by decide) (n3 : (d == ("__classdict__" : Str)) = false := by decide) (hsl : NoSl (.Name par p2) := by exact fun _ _ => rfl) :
    PKey X par (.Subscript (.Name d p1) (.Name par p2) p3) scope (keyDict j) := by
  refine ⟨fun pins s σ H x u k I rx hr A L' f c' h1 tk kp hns => ?_⟩
  obtain ⟨a, kvs, key, hs, hrd, ex, hval⟩ := hr
  subst ex
  have hfree := lp.has I.ok
  obtain ⟨m, hm, hlook⟩ := I.loc
  obtain ⟨w', rw', lk⟩ := hlook j d (.ref a) hN hs hv
  cases (show w' = Value.ref a from rw')
  have kd : X.env.scope.names.lookup d = some .cell ∨ X.env.scope.names.lookup d = some .free := lp.free _ hd rfl
  obtain ⟨c, hc, hcell⟩ : ∃ c, X.env.cells.lookup d = some c ∧ s.heap.IsCell c (some (.ref a)) := by
    rcases lk with ⟨k1, _⟩ | ⟨_, c, hc, z⟩
    · have k1 : X.env.scope.names.lookup d = some .local := k1
      rcases kd with k2 | k2 <;> rw [k2] at k1 <;> cases k1
    · exact ⟨c, hc, z⟩
  have hcell' : h1.IsCell c (some (.ref a)) := by
    obtain ⟨o, ho, hd'⟩ := hcell
    exact ⟨o, kp c o ho (I.cne d c hc), hd'⟩
  have hclo : (cloFrom X.env.cells scope.names []).lookup d = some c := NdefX.clo_has hfree hd hc
  obtain ⟨z, hsm, vs, rel, dd⟩ := (show ObjOk X.prog X.w H h1 a (.dK kvs) from rd_keepL I kp hrd)
  obtain ⟨w2, hw, rw2⟩ := RelO.some_of (v := .int k) (o := valueAt vs key) (by rw [← hval]; exact rel.val key)
  obtain ⟨t, rfl⟩ := (show ∃ t, w2 = Value.int k t from rw2)
  have tdict : ∀ tk', ({ s with heap := h1, toks := tk' } : Shared).TypeIs (.ref a) "dict" := fun tk' => (dd.mapOf).typeIs
  refine subD_of PySem.F.slot_dict_getitem.lookup hsl (wpAny_Name (wpAny_loadName_free lp.kind hl hclo hcell' ?_ n3) n1)
  refine wpAny_Name (wpAny_loadName_local (v := u) lp.kind lp.par hns ?_ ?_) n2
  · show ([(par, u)] : List (Str × Value)).reverse.lookup par = some u
    simp [List.lookup]
  · exact ⟨tdict _, wpAny_getItem_of (kV_is rx) dd.mapOf hw ⟨t, _, rfl, rfl⟩⟩
def keyItem (K : PySem.W.Frag) (n : Nat) : TKey := fun σ H x k => ∃ (t : Addr) (ys : List V), x = .ref t ∧ SqT K H t ys ∧ ys[n]? = some (.int k)
theorem pk_item {X : Cx} {par : Str} {scope : Scope} {p1 p2 p3 : Pos} {n j : Nat} (lp : LamP X.env.scope scope par) (hn : n < 1000) (n2 : (par == ("__debug__" : Str)) = false := by decide) :
    PKey X par (.Subscript (.Name par p1) (.Constant (.int (n : Int)) j p2) p3) scope (keyItem X.K n) := by
  refine ⟨fun pins s σ H x u k I rx hr A L' f c' h1 tk kp hns => ?_⟩
  obtain ⟨t, ys, ex, hsq, hy⟩ := hr
  subst ex
  cases (show u = Value.ref t from rx)
  have hit : ∃ its : List Value, Vals ys its ∧ IsTup h1 t its.toArray ∧ ys.length ≤ sizeLine := by
    rcases hsq with z | z
    · obtain ⟨hz, its, r, it⟩ := (show ObjOk X.prog X.w H h1 t (.tup ys) from rd_keepL I kp z)
      exact ⟨its, r, it, hz⟩
    · obtain ⟨its, r, ⟨o, ho, hc, n', hd⟩, hz⟩ := I.tuple (.inr z)
      refine ⟨its, r, ⟨o, kp _ _ ho ?_, hc, n', hd⟩, hz⟩
      intro zz
      obtain ⟨mL, ⟨oL, _, _, eL, dL, _⟩, _⟩ := I.loc
      rw [← zz, ho] at eL
      cases eL
      rw [hd] at dL
      cases dL
  obtain ⟨its, r, it, hz⟩ := hit
  obtain ⟨w2, hw, rw2⟩ := r.get hy
  obtain ⟨t', rfl⟩ := (show ∃ t, w2 = Value.int k t from rw2)
  have hl := r.length
  have hlt : n < ys.length := (List.getElem?_eq_some_iff.mp hy).1
  have hn63 := line63
  refine Subscript_ (wpAny_Name (wpAny_loadName_local lp.kind lp.par hns (v := Value.ref t) ?_ (wpAny_Constant_int ?_)) n2)
  · show ([(par, Value.ref t)] : List (Str × Value)).reverse.lookup par = some (Value.ref t)
    simp [List.lookup]
  · exact subscriptTail_builtinR (x := Value.int k t') it.typeIs slot_tuple_getitem.lookup
      (getItem_tuple (j := n) (Q := fun r s' => r = Value.int k t' ∧ ∃ t1 tk', r = Value.int k t1 ∧ s' = { s with heap := h1, toks := tk' }) it (by omega) (by omega)
        (by rw [List.size_toArray, ← hl, seqIndex_of (by omega) (by omega)]; simp) (by simpa using hw) ⟨rfl, t', _, rfl, rfl⟩) rfl
end OwnR

set_option Elab.async false
set_option linter.all false
set_option maxRecDepth 100000
set_option maxHeartbeats 2000000
namespace OwnR
open PySem PySem.Spec PyProof.Rows L2
section
variable {X : Cx} {CX : CXT} {k : Nat} {g C : Addr} {sp : Sp} {E : XK}
/-! ### y in x, y not in x: x an instance of C, which has __contains__ -/
def rInO (C : Addr) (sp : Sp) (E : XK) (neg : Bool) : R2 := fun x y H Q => ∃ a dx fs, y = .ref a ∧ H a = some (.ins C dx fs) ∧ sp [.ref a, x] H (fun z H' => ∃ b, z = .bl b ∧ Q (.bl (b != neg)) H') E
theorem op_inO (hs : PySem.W.findIn X.K (.ref C) "__contains__" = some (some (.ref g))) (hf : PySem.W.isFn X.K (.ref g) = true) (F : FnR X.prog X.w X.K X.mg X.base CX k g sp) (hr : Room k X.A) (hx : Passes CX X E) : OpR X (compareOp .In) (rInO C sp E false) := by
  intro pins s σ H x y v u Q I rx ry h
  obtain ⟨a, dx, fs, rfl, ha, q⟩ := h
  cases (show u = Value.ref a from ry)
  obtain ⟨ox, od, J, hd⟩ := StX.insC_at I (.inr ⟨dx, fs, ha⟩)
  obtain ⟨m, hF⟩ := I.fr
  refine PySem.W.in_K hF I.ok.mod.kin J hs hf (thn (wpAny_call (run_fnR (us := [.ref a, v]) (vs := [.ref a, x]) F hr hx I (.cons rfl (.cons rx .nil)) q)) fun w' s' hq => ?_)
  obtain ⟨z, H', I', rz, b, ez, qz⟩ := hq
  subst ez
  cases (show w' = Value.bool b from rz)
  exact wpAny_truthy_bool ⟨.bl b, H', I', rfl, by simpa using qz⟩
theorem op_notInO (hs : PySem.W.findIn X.K (.ref C) "__contains__" = some (some (.ref g))) (hf : PySem.W.isFn X.K (.ref g) = true) (F : FnR X.prog X.w X.K X.mg X.base CX k g sp) (hr : Room k X.A) (hx : Passes CX X E) : OpR X (compareOp .NotIn) (rInO C sp E true) := by
  intro pins s σ H x y v u Q I rx ry h
  obtain ⟨a, dx, fs, rfl, ha, q⟩ := h
  cases (show u = Value.ref a from ry)
  obtain ⟨ox, od, J, hd⟩ := StX.insC_at I (.inr ⟨dx, fs, ha⟩)
  obtain ⟨m, hF⟩ := I.fr
  refine PySem.W.notIn_K hF I.ok.mod.kin J hs hf (thn (wpAny_call (run_fnR (us := [.ref a, v]) (vs := [.ref a, x]) F hr hx I (.cons rfl (.cons rx .nil)) q)) fun w' s' hq => ?_)
  obtain ⟨z, H', I', rz, b, ez, qz⟩ := hq
  subst ez
  cases (show w' = Value.bool b from rz)
  exact wpAny_truthy_bool ⟨.bl (!b), H', I', rfl, by simpa using qz⟩
/-! ### o[i]: o an instance of C, which has __getitem__ -/
def tSubO (C : Addr) (sp : Sp) (E : XK) (to ti : TE) : TE := fun σ H Q => to σ H fun x H1 => ti σ H1 fun y H2 => ∃ a dx fs, x = .ref a ∧ H2 a = some (.ins C dx fs) ∧ sp [.ref a, y] H2 Q E
theorem pe_subO {o i : Expr} {pos : Pos} {to ti : TE} (hs : PySem.W.findIn X.K (.ref C) "__getitem__" = some (some (.ref g))) (hf : PySem.W.isFn X.K (.ref g) = true) (hfi : PySem.W.fnIn X.K g = true) (F : FnR X.prog X.w X.K X.mg X.base CX k g sp) (hr : Room (k + 1) X.A) (hx : Passes CX X E)
    (ho : PE X o to) (hi : PE X i ti) (hsl : ∀ a v, subscripted i true (.ref a) v = runValue (.builtin "lifetime.subscript" ⟨[.ref a, v], []⟩) := by intros; with_unfolding_all rfl) : PE X (.Subscript o i pos) (tSubO C sp E to ti) := by
  refine ⟨fun pins s σ H Q I h => ?_⟩
  refine Subscript_ (thn (ho.run pins s σ H _ I h) fun u s1 ⟨x, H1, I1, rx, q1⟩ => thn (hi.run pins s1 σ H1 _ I1 q1) fun iv s2 ⟨y, H2, I2, ry, a, dx, fs, ex, ha, q⟩ => ?_)
  subst ex
  cases (show u = Value.ref a from rx)
  obtain ⟨ox, od, J, hd⟩ := StX.insC_at I2 (.inr ⟨dx, fs, ha⟩)
  obtain ⟨m, hF⟩ := I2.fr
  exact PySem.W.sub_K hF I2.ok.mod.kin J hs hfi hf (wpAny_call (SlX.run_at (us := [.ref a, iv]) (ws := [.ref a, y]) F hr.in1 I2.env0.in1 hx I2 (.cons rfl (.cons ry .nil)) q)) (hsl a iv)
/-! ### len(o) -/
def rLenO (C : Addr) (sp : Sp) (E : XK) : List V → Hp → VK → Prop := fun xs H Q => ∃ a dx fs, xs = [V.ref a] ∧ H a = some (.ins C dx fs) ∧ sp [.ref a] H (fun z H' => ∃ n : Nat, z = .int (n : Int) ∧ n ≤ sizeLine ∧ Q (.int (n : Int)) H') E
theorem call_lenO (hs : PySem.W.findIn X.K (.ref C) "__len__" = some (some (.ref g))) (hf : PySem.W.isFn X.K (.ref g) = true) (F : FnR X.prog X.w X.K X.mg X.base CX k g sp) (hr : Room (k + 1) X.A) (hx : Passes CX X E) : CallR X (.builtin "len") (rLenO C sp E) := by
  intro pins s σ H xs us Q I r h
  obtain ⟨a, dx, fs, rfl, ha, q⟩ := h
  obtain ⟨u, rfl, ru⟩ := r.one
  cases (show u = Value.ref a from ru)
  obtain ⟨ox, od, J, hd⟩ := StX.insC_at I (.inr ⟨dx, fs, ha⟩)
  obtain ⟨m, hF⟩ := I.fr
  refine PySem.W.len_K hF I.ok.mod.kin J hs hf (thn (wpAny_call (SlX.run_at (us := [.ref a]) (ws := [.ref a]) F hr.in1 I.env0.in1 hx I (.cons rfl .nil) q)) fun w' s' hq => ?_)
  obtain ⟨z, H', I', rz, n, ez, hn, qz⟩ := hq
  subst ez
  obtain ⟨t, e⟩ := (show ∃ t, w' = Value.int (n : Int) t from rz)
  cases e
  have := line63
  exact ⟨⟨by omega, by omega⟩, .int (n : Int), H', I'.tok _, ⟨_, rfl⟩, qz⟩
/-! ### a + b, both of C, which has __add__ -/
def rAddO (C : Addr) (sp : Sp) (E : XK) : R2 := fun x y H Q => ∃ a dx fs b dy gs, x = .ref a ∧ y = .ref b ∧ H a = some (.ins C dx fs) ∧ H b = some (.ins C dy gs) ∧ sp [.ref a, .ref b] H Q E
theorem op_addO (hc : PySem.W.selfFirst X.K C = true) (hs : PySem.W.findIn X.K (.ref C) (PySem.dunder (Operator.info .Add).2) = some (some (.ref g))) (hf : PySem.W.isFn X.K (.ref g) = true) (F : FnR X.prog X.w X.K X.mg X.base CX k g sp) (hr : Room k X.A) (hx : Passes CX X E) : OpR X (binaryOp .Add) (rAddO C sp E) := by
  intro pins s σ H x y v u Q I rx ry h
  obtain ⟨a, dx, fs, b, dy, gs, rfl, rfl, ha, hb, q⟩ := h
  cases (show v = Value.ref a from rx)
  cases (show u = Value.ref b from ry)
  obtain ⟨ox, od, J, hd⟩ := StX.insC_at I (.inr ⟨dx, fs, ha⟩)
  obtain ⟨oy, od', J', hd'⟩ := StX.insC_at I (.inr ⟨dy, gs, hb⟩)
  obtain ⟨m, hF⟩ := I.fr
  refine PySem.W.binop_K (op := .Add) hF I.ok.mod.kin J J'.type hc hs hf (thn (wpAny_call (run_fnR (us := [.ref a, .ref b]) (vs := [.ref a, .ref b]) F hr hx I (.cons rfl (.cons rfl .nil)) q)) fun w' s' hq => ?_)
  obtain ⟨z, H', I', rz, qz⟩ := hq
  exact SlX.cmpback rz ⟨z, H', I', rz, qz⟩
/-! ### x(*y), x a slot that holds the class C -/
def tMakeLS (K : PySem.W.Frag) (C : Addr) (sp : Sp) (E : XK) (tf te : TE) : TE := fun σ H Q => tf σ H fun z H0 => z = .ref C ∧ te σ H0 fun y H1 => ∃ a xs, y = V.ref a ∧ (SqT K H1 a xs ∨ SqL K H1 a xs) ∧ ∀ x dx, H1 x = none → H1 dx = none → dx ≠ x →
  sp (V.ref x :: xs) (upd (upd H1 dx (.own x)) x (.ins C dx [])) (fun v H2 => v = .non ∧ Q (.ref x) H2) E
theorem pe_makeLS {x : Str} {e : Expr} {p p2 pos : Pos} {tf te : TE} {f : Addr} (M : Mk X.K C f) (F : FnR X.prog X.w X.K X.mg X.base CX k f sp) (hr : Room (k + 1) X.A) (hx : Passes CX X E) (hf : PE X (.Name x p) tf) (he : PE X e te)
    (hst : starEach [.Starred e p2] X.env = [(true, eval e X.env)] := by rfl) : PE X (.Call (.Name x p) [.Starred e p2] [] pos) (tMakeLS X.K C sp E tf te) := by
  refine ⟨fun pins s σ H Q I h => ?_⟩
  refine wpAny_Call_Name_kw (thn (hf.run pins s σ H _ I h) fun u s0 ⟨z, H0, I0, rz, ez, q0⟩ => ?_)
  subst ez
  cases (show u = Value.ref C from rz)
  refine PySem.W.callWith_S (h₀ := X.base) I.ok.mod.kin M.kp (thn (he.run pins s0 σ H0 _ I0 q0) fun v s1 ⟨y, H1, I1, ry, a, xs, ey, hxs, q⟩ => ?_) hst
  subst ey
  cases (show v = Value.ref a from ry)
  exact StX.star_any I1 hxs fun us s2 I2 rv => ⟨I2.kIn, StX.run_makeR M F hr hx I2 rv q⟩
end
/-- x(*y), x a class of the module -/
theorem pe_makeGS {X : Cx} {CX : CXT} {k : Nat} {C : Addr} {sp : Sp} {E : XK} {x : Str} {e : Expr} {p p2 pos : Pos} {te : TE} {f : Addr} (M : Mk X.K C f) (F : FnR X.prog X.w X.K X.mg X.base CX k f sp) (hr : Room (k + 1) X.A) (hx : Passes CX X E) (hg : Gl X x) (hm : X.mg x = some (.ref C)) (he : PE X e te)
    (hdb : (x == ("__debug__" : Str)) = false := by decide) (hst : starEach [.Starred e p2] X.env = [(true, eval e X.env)] := by rfl) : PE X (.Call (.Name x p) [.Starred e p2] [] pos) (tMakeLS X.K C sp E (tC (.ref C)) te) :=
  pe_makeLS M F hr hx (pe_glob hg hm rfl hdb) he hst
/-! ### xs[i] op= e, xs a list -/
theorem pg_list {X : Cx} : PGet X (rIxL X.K) := by
  intro pins s σ H x y v u Q I rx ry h
  obtain ⟨p, xs, i, z, rfl, rfl, hq, he, q⟩ := h
  cases (show v = Value.ref p from rx)
  obtain ⟨t, rfl⟩ := (show ∃ t, u = Value.int i t from ry)
  obtain ⟨its, r, pl, hz⟩ := I.list hq
  obtain ⟨j, h1, h2, h3, h4, h5⟩ := atI_get he
  obtain ⟨w, ew, rw'⟩ := r.get h2
  have hl := r.length
  have hn := line63
  have fin : EP X pins σ Q w s := ⟨z, H, I, rw', q⟩
  by_cases h0 : 0 ≤ i
  · have hj : i.toNat = j := by
      rw [seqIndex_of h0 h5] at h1
      exact Option.some.inj h1
    exact wpAny_getItem_list pl.isList h0 (by omega) (by rw [hj]; simpa using ew) fin
  · have hj : (i + (its.toArray.size : Int)).toNat = j := by
      rw [seqIndex_neg (by omega) h4] at h1
      rw [List.size_toArray, ← hl]
      exact Option.some.inj h1
    exact wpAny_getItem_list_neg pl.isList (by omega) (by rw [List.size_toArray] <;> omega) (by omega) (by rw [hj]; simpa using ew) fin
end OwnR

set_option Elab.async false
set_option linter.all false
set_option maxRecDepth 100000
namespace Sl
open PySem L2
def top (i : Nat) : Stmt := PySem.Challenge.pw_slowleaders_k63_whole_wide_enough_by_all.main.body.getD i (.Pass ⟨0, 0, 0, 0⟩)
abbrev sRoadError : Stmt := top 2
abbrev sInvalidRoad : Stmt := top 3
abbrev sInvalidRoadInit : Stmt := inClass sInvalidRoad 0
abbrev sInvalidCars : Stmt := top 4
abbrev sInvalidCarsInit : Stmt := inClass sInvalidCars 0
abbrev sInvalidNumber : Stmt := top 5
abbrev sUnknownCar : Stmt := top 6
abbrev sUnknownCarInit : Stmt := inClass sUnknownCar 0
abbrev sUnknownSection : Stmt := top 7
abbrev sUnknownSectionInit : Stmt := inClass sUnknownSection 0
abbrev sIsNumber : Stmt := top 13
abbrev sIsName : Stmt := top 14
abbrev sIsCar : Stmt := top 15
abbrev sCheckCars : Stmt := top 16
abbrev sInOrder : Stmt := top 18
abbrev sFollow : Stmt := top 19
abbrev sDriveAll : Stmt := top 20
abbrev sDrive : Stmt := top 21
abbrev sDInit : Stmt := inClass sDrive 0
abbrev sDCheckCar : Stmt := inClass sDrive 1
abbrev sDCheckPlace : Stmt := inClass sDrive 2
abbrev sDCheckSection : Stmt := inClass sDrive 3
abbrev sDGet : Stmt := inClass sDrive 4
abbrev sDCall : Stmt := inClass sDrive 5
abbrev sDHas : Stmt := inClass sDrive 6
abbrev sDLen : Stmt := inClass sDrive 7
abbrev sDOrderAt : Stmt := inClass sDrive 9
abbrev sDLeader : Stmt := inClass sDrive 10
abbrev sDRowsOf : Stmt := inClass sDrive 11
abbrev sDOvertakings : Stmt := inClass sDrive 12
abbrev sDLosses : Stmt := inClass sDrive 13
abbrev sFirstLoser : Stmt := top 24
abbrev sFewestWidened : Stmt := top 25
abbrev sHarmfulWidenings : Stmt := top 26
abbrev sIsSection : Stmt := top 33
abbrev sUnitsOf : Stmt := top 34
abbrev sRuns : Stmt := top 35
abbrev sRoad : Stmt := top 36
abbrev sRInit : Stmt := inClass sRoad 0
abbrev sROfUnits : Stmt := inClass sRoad 1
abbrev sRSections : Stmt := inClass sRoad 2
abbrev sRUnits : Stmt := inClass sRoad 3
abbrev sRWidened : Stmt := inClass sRoad 4
abbrev sRLen : Stmt := inClass sRoad 5
abbrev sRGet : Stmt := inClass sRoad 6
abbrev sRHas : Stmt := inClass sRoad 8
abbrev sRAdd : Stmt := inClass sRoad 9
abbrev sRMul : Stmt := inClass sRoad 10
abbrev sREq : Stmt := inClass sRoad 11
abbrev sTaken : Stmt := top 38
abbrev sUnits : Stmt := top 39
abbrev sSections : Stmt := top 40
abbrev sCars : Stmt := top 41
abbrev sDriven : Stmt := top 42
abbrev sDrawn : Stmt := top 43
abbrev sWidened : Stmt := top 44
abbrev sLoser : Stmt := top 45
abbrev sLaw : Stmt := top 46
end Sl

set_option Elab.async false
set_option linter.all false
set_option maxRecDepth 100000
set_option maxHeartbeats 1000000
namespace Sl
open PySem PySem.Spec L2 OwnR
theorem yes_of {σ : L2.St} {H : Hp} {A S : Hp → Prop} (h : A H) : tYes σ H (fun b H3 => if b = true then A H3 else S H3) := by
  show (if true = true then A H else S H)
  rw [if_pos rfl]
  exact h
/-- the module's names that the program asks: built-ins that stand, its constants -/
structure Mg (mg : Str → Option Value) : Prop where
  isinstance : mg "isinstance" = none
  int : mg "int" = none
  bool : mg "bool" = none
  str : mg "str" = none
  tuple : mg "tuple" = none
  len : mg "len" = none
  all : mg "all" = none
  enumerate : mg "enumerate" = none
  sorted : mg "sorted" = none
  list : mg "list" = none
  range : mg "range" = none
  sum : mg "sum" = none
  mostCars : ∃ t, mg "MOST_CARS" = some (.int 10 t)
  longestName : ∃ t, mg "LONGEST_NAME" = some (.int 8 t)
  latestStart : ∃ t, mg "LATEST_START" = some (.int 1000000 t)
  slowestPace : ∃ t, mg "SLOWEST_PACE" = some (.int 60 t)
  mostSections : ∃ t, mg "MOST_SECTIONS" = some (.int 12 t)
  longestSection : ∃ t, mg "LONGEST_SECTION" = some (.int 99 t)
theorem boot_isinstance : bootBuiltins "isinstance" = some (.builtin "isinstance") := by decide +kernel
theorem boot_tInt : bootBuiltins "int" = some (.type "int") := by decide +kernel
theorem boot_tBool : bootBuiltins "bool" = some (.type "bool") := by decide +kernel
theorem boot_tStr : bootBuiltins "str" = some (.type "str") := by decide +kernel
theorem boot_tTuple : bootBuiltins "tuple" = some (.type "tuple") := by decide +kernel
theorem boot_all : bootBuiltins "all" = some (.builtin "all") := by decide +kernel
section
variable {P : Program} {w : World} {K : PySem.W.Frag} {mg : Str → Option Value} {base : Heap}
/-! ### is_number of an int -/
def spIsNumber : Sp := fun vs H Q _ => ∃ i lo hi : Int, vs = [.int i, .int lo, .int hi] ∧ Q (.bl (decide (lo ≤ i) && decide (i ≤ hi))) H
theorem scIsNumber : FnScope ["value", "least", "most"] ["value", "least", "most"] (defScope sIsNumber) := ⟨rfl, rfl, rfl, by decide +kernel, rfl, by decide +kernel, by decide +kernel⟩
theorem ok_isNumber {f : Addr} {fd : FuncData} (F : Fun K "is_number" "is_number" sIsNumber f fd) (M : Mg mg) : FnOk P w K mg base CX0 1 f fd ["value", "least", "most"] spIsNumber := by
  refine F.ok scIsNumber (fun vs H Q E h => ?_) (fun cdv A outer s H vs Q E hr h => ?_)
  · obtain ⟨i, lo, hi, rfl, _⟩ := h
    rfl
  · obtain ⟨i, lo, hi, rfl, k⟩ := h
    refine ⟨_, pss_one (ps_ret (pe_and (pe_callB call_isi (by rfl) M.isinstance boot_isinstance (pa_cons (pv 0) (pa_cons (pe_bltn (v := .ty "int") (by rfl) M.int boot_tInt rfl) pa_nil)))
      (pe_and (pe_not (pe_callB call_isi (by rfl) M.isinstance boot_isinstance (pa_cons (pv 0) (pa_cons (pe_bltn (v := .ty "bool") (by rfl) M.bool boot_tBool rfl) pa_nil))))
        (pe_one (pe_chain op_le op_le (pv 1) (pv 0) (pv 2)))))), ?_⟩
    refine ⟨_, rfl, _, _, _, _, true, rfl, .ty _, .base (.int i), kit_ty (by decide +kernel), true, rfl, iteT ?_⟩
    refine ⟨_, rfl, _, _, _, _, false, rfl, .ty _, .base (.int i), kit_ty (by decide +kernel), false, rfl, true, rfl, iteT ?_⟩
    refine ⟨_, rfl, _, rfl, lo, i, rfl, rfl, _, rfl, ?_⟩
    by_cases h1 : lo ≤ i
    · rw [decide_eq_true h1] at k ⊢
      exact iteT ⟨_, rfl, i, hi, rfl, rfl, by simpa using k⟩
    · rw [decide_eq_false h1] at k ⊢
      exact iteF (by simpa using k)
theorem lt_one (a b : Nat) : decide ([a] < [b]) = decide (a < b) := by
  rw [decide_eq_decide]
  simp [List.cons_lt_cons_iff]
/-! ### is_name of a text that is a name -/
def NameOk (z : Str) : Prop := 1 ≤ z.length ∧ z.length ≤ 8 ∧ ∀ c ∈ z.cps.toList, 97 ≤ c ∧ c ≤ 122
def spIsName : Sp := fun vs H Q _ => ∃ z : Str, vs = [.str z] ∧ NameOk z ∧ ∀ H', Same H H' → Q (.bl true) H'
theorem scIsName : FnScope ["value", "letter"] ["value"] (defScope sIsName) := ⟨rfl, rfl, rfl, by decide +kernel, rfl, by decide +kernel, by decide +kernel⟩
theorem ok_isName {f : Addr} {fd : FuncData} (F : Fun K "is_name" "is_name" sIsName f fd) (M : Mg mg) : FnOk P w K mg base CX0 1 f fd ["value"] spIsName := by
  obtain ⟨t8, M8⟩ := M.longestName
  refine F.ok scIsName (fun vs H Q E h => ?_) (fun cdv A outer s H vs Q E hr h => ?_)
  · obtain ⟨z, rfl, _⟩ := h
    rfl
  · obtain ⟨z, rfl, ⟨z1, z8, zc⟩, k⟩ := h
    have nd := scIsName.nd
    refine ⟨_, pss_cons (ps_if (PW.pt (pw_or (pt_not (pt_val (pe_callB call_isi (by rfl) M.isinstance boot_isinstance (pa_cons (pv 0) (pa_cons (pe_bltn (v := .ty "str") (by rfl) M.str boot_tStr rfl) pa_nil)))))
        (pw_or1 (pt_not (pt_chain op_le op_le pe_int (pe_callB call_len_str (by rfl) M.len boot_len (pa_cons (pv 0) pa_nil)) (pe_glob (v := .int 8) (by rfl) M8 ⟨_, rfl⟩)))))) (pss_one (ps_ret pe_bl)) pss_nil)
      (pss_one (ps_ret (pe_callB (cr_all rfl) (by rfl) M.all boot_all (pa_cons (pe_lc (own := [("letter", 1)]) (g := gName 1) (tt := tYes) (by rfl) nd (pi_str (pv 0)) (blkOk_by (N := ["value", "letter"]) (sc := defScope sIsName) (by decide +kernel))
        (fun _ _ _ _ _ => pg_name (i := 1) nd rfl (Or.inl rfl)) (fun _ _ _ _ _ => pts_nil) (fun _ _ _ _ _ => pe_chain op_le_str op_le_str pe_str (pv 1) pe_str)) pa_nil)))), ?_⟩
    have hz : z.length ≤ sizeLine := Nat.le_trans z8 (by decide)
    have e1 : decide ((1 : Int) ≤ (z.length : Nat)) = true := decide_eq_true (by omega)
    have e8 : decide (((z.length : Nat) : Int) ≤ 8) = true := decide_eq_true (by omega)
    refine ⟨_, rfl, _, _, _, _, true, rfl, .ty _, .base (.str z), kit_ty (by decide +kernel), true, rfl, iteF ?_⟩
    refine ⟨_, rfl, z, rfl, hz, 1, (z.length : Nat), rfl, rfl, _, rfl, ?_⟩
    rw [e1]
    refine iteT ⟨(z.length : Nat), 8, rfl, rfl, true, congrArg V.bl e8, iteF ?_⟩
    refine ⟨_, rfl, z, rfl, fun D hD => lc_it walk_str (fun i H1 => (∀ b o, H b = some o → H1 b = some o) ∧ H1 D = some (.lst (List.replicate i (.bl true)))) ⟨fun b o e => by rw [upd_ne (ne_of_none e hD)]; exact e, upd_same⟩ (fun _ _ _ _ => True.intro) ?_ ?_⟩
    · rintro i x H1 H2 hi ⟨hk, hl⟩ ⟨e, c, hc, ex⟩
      subst e ex
      have hm : c ∈ z.cps.toList := by
        rw [Array.mem_toList_iff]
        exact Array.mem_of_getElem? hc
      have g1 : (!decide ((⟨#[c]⟩ : Str).cps.toList < ("a" : Str).cps.toList)) = true := by
        have e2 : ("a" : Str).cps.toList = [97] := by decide +kernel
        rw [e2]
        have := (zc c hm).1
        show (!decide (([c] : List Nat) < [97])) = true
        rw [lt_one, decide_eq_false (by omega)]
        rfl
      have g2 : (!decide (("z" : Str).cps.toList < (⟨#[c]⟩ : Str).cps.toList)) = true := by
        have e2 : ("z" : Str).cps.toList = [122] := by decide +kernel
        rw [e2]
        have := (zc c hm).2
        show (!decide (([122] : List Nat) < [c])) = true
        rw [lt_one, decide_eq_false (by omega)]
        rfl
      refine ⟨rfl, ?_⟩
      refine yes_of ?_
      refine ⟨_, rfl, _, _, rfl, rfl, true, congrArg V.bl g1, ?_⟩
      refine iteT ?_
      refine ⟨_, _, rfl, rfl, ?_⟩
      rw [g2]
      refine ⟨_, hl, ?_, fun b o e => by rw [upd_ne (ne_of_none e hD)]; exact hk b o e, ?_⟩
      · rw [List.length_replicate]
        have : z.cps.size ≤ 8 := z8
        exact Nat.lt_of_lt_of_le (Nat.lt_of_lt_of_le hi this) (by decide)
      · rw [upd_same, ← List.replicate_succ']
    · rintro H1 ⟨hk, hl⟩
      refine ⟨D, List.replicate z.cps.size true, rfl, ?_, ?_⟩
      · rw [List.map_replicate]
        exact SqL.of hl
      · have e3 : (List.replicate z.cps.size true).all id = true := by simp
        rw [e3]
        exact k H1 hk
end
end Sl

set_option Elab.async false
set_option linter.all false
set_option maxRecDepth 100000
set_option maxHeartbeats 1000000
namespace Sl
open PySem PySem.Spec L2 OwnR
/-- a def of the module, as callers want it -/
structure Fb (K : PySem.W.Frag) (mg : Str → Option Value) (x : Str) (st : Stmt) (ps : List Str) (f : Addr) (fd : FuncData) : Prop where
  fn : Fun K x x st f fd
  at_ : mg x = some (.ref f)
  bd : Binds K fd ps []
section
variable {P : Program} {w : World} {K : PySem.W.Frag} {mg : Str → Option Value} {base : Heap}
/-! ### is_car of a tuple that is a car -/
structure Car where
  name : Str
  start : Int
  pace : Int
def Car.vs (c : Car) : List V := [.str c.name, .int c.start, .int c.pace]
structure Car.Ok (c : Car) : Prop where
  nm : NameOk c.name
  s0 : 0 ≤ c.start
  s1 : c.start ≤ 1000000
  p0 : 1 ≤ c.pace
  p1 : c.pace ≤ 60
def spIsCar : Sp := fun vs H Q _ => ∃ (t : Addr) (c : Car), vs = [.ref t] ∧ H t = some (.tup c.vs) ∧ c.Ok ∧ ∀ H', Same H H' → Q (.bl true) H'
theorem scIsCar : FnScope ["value", "name", "start", "pace"] ["value"] (defScope sIsCar) := ⟨rfl, rfl, rfl, by decide +kernel, rfl, by decide +kernel, by decide +kernel⟩
theorem ok_isCar {f fN fB : Addr} {fd dN dB : FuncData} (F : Fb K mg "is_car" sIsCar ["value"] f fd) (M : Mg mg) (BN : Fb K mg "is_name" sIsName ["value"] fN dN) (BB : Fb K mg "is_number" sIsNumber ["value", "least", "most"] fB dB)
    (GN : FnOk P w K mg base CX0 1 fN dN ["value"] spIsName) (GB : FnOk P w K mg base CX0 1 fB dB ["value", "least", "most"] spIsNumber) : FnOk P w K mg base CX0 2 f fd ["value"] spIsCar := by
  obtain ⟨t1, M1⟩ := M.latestStart
  obtain ⟨t2, M2⟩ := M.slowestPace
  refine F.fn.ok scIsCar (fun vs H Q E h => ?_) (fun cdv A outer s H vs Q E hr h => ?_)
  · obtain ⟨t, c, rfl, _⟩ := h
    rfl
  · obtain ⟨t, c, rfl, ht, C, k⟩ := h
    have nd := scIsCar.nd
    refine ⟨_, pss_cons (ps_if (PW.pt (pw_or (pt_not (pt_val (pe_callB call_isi (by rfl) M.isinstance boot_isinstance (pa_cons (pv 0) (pa_cons (pe_bltn (v := .ty "tuple") (by rfl) M.tuple boot_tTuple rfl) pa_nil)))))
        (pw_or1 (pt_cmpR op_ne (pe_callB call_len_seq (by rfl) M.len boot_len (pa_cons (pv 0) pa_nil)) pe_int (nomark _))))) (pss_one (ps_ret pe_bl)) pss_nil)
      (pss_cons (ps_asg (pv 0) (pg_tup (by rfl) (pgs_cons (pg_name (i := 1) nd rfl (.inl rfl)) (pgs_cons (pg_name (i := 2) nd rfl (.inl rfl)) (pgs_cons (pg_name (i := 3) nd rfl (.inl rfl)) pgs_nil)))))
      (pss_one (ps_ret (pe_and (pe_call GN hr (by rfl) BN.at_ BN.fn.kp BN.bd .nil pass0 (pa_cons (pv 1) pa_nil))
        (pe_and (pe_call GB hr (by rfl) BB.at_ BB.fn.kp BB.bd .nil pass0 (pa_cons (pv 2) (pa_cons pe_int (pa_cons (pe_glob (v := .int 1000000) (by rfl) M1 ⟨_, rfl⟩) pa_nil))))
          (pe_one (pe_call GB hr (by rfl) BB.at_ BB.fn.kp BB.bd .nil pass0 (pa_cons (pv 3) (pa_cons pe_int (pa_cons (pe_glob (v := .int 60) (by rfl) M2 ⟨_, rfl⟩) pa_nil)))))))))), ?_⟩
    refine ⟨_, rfl, _, _, _, _, true, rfl, .ty _, .base (.tup ht), kit_ty (by decide +kernel), true, rfl, iteF ?_⟩
    refine ⟨_, rfl, t, _, rfl, .inr (SqT.of ht), rfl, false, rfl, iteF ?_⟩
    refine ⟨_, rfl, t, c.vs, rfl, SqT.of ht, rfl, _, _, rfl, _, _, rfl, _, _, rfl, rfl, ?_⟩
    refine ⟨_, rfl, c.name, rfl, C.nm, fun H1 s1 => ⟨true, rfl, iteT ?_⟩⟩
    refine ⟨_, rfl, c.start, 0, 1000000, rfl, true, ?_, iteT ?_⟩
    · rw [decide_eq_true C.s0, decide_eq_true C.s1]
      rfl
    refine ⟨_, rfl, c.pace, 1, 60, rfl, ?_⟩
    rw [decide_eq_true C.p0, decide_eq_true C.p1]
    exact k H1 s1
/-! ### check_cars of a tuple of cars -/
def CarsAt (H : Hp) (a : Addr) (cars : List Car) : Prop := ∃ ts : List Addr, H a = some (.tup (ts.map V.ref)) ∧ ts.length = cars.length ∧ ∀ (i : Nat) (t : Addr) (c : Car), ts[i]? = some t → cars[i]? = some c → H t = some (.tup c.vs)
structure CarsOk (cars : List Car) : Prop where
  all : ∀ c ∈ cars, c.Ok
  nd : (cars.map (·.name)).Nodup
  few : cars.length ≤ 10
theorem CarsAt.same {H H' : Hp} {a : Addr} {cars : List Car} (h : CarsAt H a cars) (e : Same H H') : CarsAt H' a cars := by
  obtain ⟨ts, h1, h2, h3⟩ := h
  exact ⟨ts, e _ _ h1, h2, fun i t c e1 e2 => e _ _ (h3 i t c e1 e2)⟩
end
end Sl

set_option Elab.async false
set_option linter.all false
set_option maxRecDepth 100000
set_option maxHeartbeats 2000000
namespace OwnR
open PySem PySem.Spec PyProof.Rows L2
/-! ### enumerate(t), t a tuple -/
abbrev enumObj (n : Nat) : Obj := { cls := .type "enumerate", data := .fields #[.none, .bool false, .ref n, rawInt 0, .none, .none] }
theorem enum_make {v : Value} {o : Obj} {G : Heap → Prop} (B : Begins v o G) : Meets (Builtin.«enumerate.__new__» ⟨[.type "enumerate", v], []⟩) (fun _ R s => G s.heap ∧ R (.ok (.ret (.ref (s.heap.push o).objs.size))) { s with heap := (s.heap.push o).push (enumObj s.heap.objs.size) }) := by
  refine .of_wp fun prog w A R s hs => ?_
  obtain ⟨hp, g, d, tk, os⟩ := s
  obtain ⟨hG, hR⟩ := hs
  have isE := sub_enumerate
  have it1 : ∀ {A' : Around} {E' Q' : Value → Shared → Prop}, Q' (.ref hp.objs.size) ⟨hp.push o, g, d, tk, os⟩ → wpAny (model prog w) A' (pyIter v) (fun a b => Q' a b) (fun a b => E' a b) ⟨hp, g, d, tk, os⟩ := fun q => B.iter prog w _ _ ⟨hp, g, d, tk, os⟩ _ hG q
  wp_walk using it1
  refine wpAny_stack_any fun st => wpAny_pure ?_
  split
  · rename_i c _ _ _ _ _
    cases (c == Value.type "enumerate") <;> (wp_walk using it1; exact ⟨_, rfl, hR⟩)
  · wp_walk using it1
    exact ⟨_, rfl, hR⟩
section
variable {prog : Program} {w : World} {A : Around} {E : Value → Shared → Prop} {s : Shared}
theorem enum_tuple {t : Addr} {items : Array Value} {Q : Value → Shared → Prop} (ht : s.heap.IsTuple t items)
    (h : ∀ h', IsEnum h' (s.heap.objs.size + 1) s.heap.objs.size 0 .none → h'.IsTupleIter s.heap.objs.size t 0 → (∀ b o, s.heap.get? b = some o → h'.get? b = some o) → Q (.ref (s.heap.objs.size + 1)) { s with heap := h' }) :
    wpAny (model prog w) A (call (.type "enumerate") [.ref t]) Q E s := by
  have sz : ∀ o : Obj, (s.heap.push o).objs.size = s.heap.objs.size + 1 := fun o => Heap.size_push ..
  refine callType_new F.called_enumerate (by decide) (F.typeCall_enumerate_1 _) (F.newCall_enumerate_1 _) (fun _ => F.args_object_init_2 _ _) F.entry_enumerate_new (enum_make (begins_tuple t items)) ⟨ht, ?_⟩
  have he : ((s.heap.push { cls := .type "tuple_iterator", data := .fields #[.ref t, .int 0 0] }).push (enumObj s.heap.objs.size)).get? (s.heap.objs.size + 1) = some (enumObj s.heap.objs.size) := by
    have q := Heap.get?_push_size (s.heap.push { cls := .type "tuple_iterator", data := .fields #[.ref t, .int 0 0] }) (o := enumObj s.heap.objs.size) rfl
    rw [sz] at q
    exact q
  show _ ∧ _
  rw [sz]
  exact ⟨⟨_, he, rfl⟩, h _ he ⟨_, Heap.get?_push_of_some _ (Heap.get?_push_size _ rfl), rfl, rfl⟩ fun b o x => Heap.get?_push_of_some _ (Heap.get?_push_of_some _ x)⟩
end
/-- the tuple at a as it stands at each turn, each item in a new pair -/
def IteT (K : PySem.W.Frag) (a : Addr) (N : Nat) : It :=
  ⟨fun i H => ∃ (xs : List V) (x : V), SqT K H a xs ∧ xs[i]? = some x ∧ xs.length = N,
   fun i H v H' => ∃ T x, v = .ref T ∧ H T = none ∧ H' = upd H T (.tup [.int (i : Nat), x]) ∧ ∀ xs, SqT K H a xs → xs[i]? = some x,
   fun i H => ∃ xs : List V, SqT K H a xs ∧ xs.length ≤ i ∧ xs.length = N⟩
theorem tup_ne {h : Heap} {a it : Addr} {items : Array Value} {i : Nat} (p : h.IsTuple a items) (q : h.IsTupleIter it a i) : a ≠ it := by
  intro e
  obtain ⟨o, ho, hc, _⟩ := p
  obtain ⟨o', ho', hc', _⟩ := q
  rw [e, ho'] at ho
  cases ho
  rw [hc'] at hc
  injection hc with z
  exact absurd z (by decide)
theorem turn_enumT {P : Program} {w : World} {K : PySem.W.Frag} {elts : List Expr} {kk : Nat} {tpos : Pos} (a e it : Addr) (N : Nat) (nea : e ≠ a) :
    Turn P w K (.Tuple elts kk tpos) (IteT K a N) [e, it] e (fun i h => (∃ old, IsEnum h e it ((i : Nat) : Int) old) ∧ h.IsTupleIter it a i ∧ e ≠ it ∧ i ≤ N) where
  mem := List.mem_cons_self
  obj := fun i h st b hb => by
    obtain ⟨⟨old, he⟩, ⟨o, ho, hc, hd⟩, _⟩ := st
    rcases List.mem_cons.mp hb with z | z
    · exact ⟨_, by rw [z]; exact he, fun v q => by cases q⟩
    · exact ⟨o, by rw [List.mem_singleton.mp z]; exact ho, fun v q => by rw [hd] at q; cases q⟩
  keep := fun i h h' st k => by
    obtain ⟨⟨old, he⟩, ⟨o, ho, r⟩, hne, le⟩ := st
    exact ⟨⟨old, k e (by simp) _ he⟩, ⟨o, k it (by simp) o ho, r⟩, hne, le⟩
  item := by
    intro X hP hw hK hc i pins s σ H E I hf st hg
    subst hP hw hK
    obtain ⟨⟨old, he⟩, hit, hne, le⟩ := st
    obtain ⟨xs, x, hq, hx, eN⟩ := hg
    obtain ⟨its, rv, p, hz⟩ := I.tuple hq
    obtain ⟨u, hu, ru⟩ := rv.get hx
    have lo : i < its.toArray.size := by
      rw [List.size_toArray]
      exact (List.getElem?_eq_some_iff.mp hu).1
    have hel : e < s.heap.objs.size := Heap.lt_size he
    have hil : it < s.heap.objs.size := by
      obtain ⟨_, q, _⟩ := hit
      exact Heap.lt_size q
    have hd : X.A.in1.handled = none := I.ok.hd hc
    have D := Draws.tuple (prog := X.prog) (w := X.w) hd it a (tup_ne p hit) its.toArray
    refine wpAny_pyNext_enum_itemC D he ⟨hit, p⟩ lo hne (by simp [hne, nea]) fun y h' tk hy ho st2 hT hsz hk => ⟨_, rfl, wpAny_letOwnedTupleGo_enum (s := { s with heap := h', toks := tk + 1 }) ho fun h2 he2 sb => ?_⟩
    have ey : y = u := by
      have hy : its.toArray[i]? = some y := hy
      have : its[i]? = some y := by simpa using hy
      rw [hu] at this
      exact (Option.some.inj this).symm
    subst ey
    have hT2 : h2.get? s.heap.objs.size = some { cls := .type "tuple", data := .seq #[.int i tk, y] } := (sb.2 _ (Nat.ne_of_gt hel)).trans hT
    have new : ObjOk X.prog X.w (upd H s.heap.objs.size (.tup [.int (i : Nat), x])) h2 s.heap.objs.size (.tup [.int (i : Nat), x]) :=
      ⟨by show 2 ≤ sizeLine; decide, [.int i tk, y], .cons ⟨_, rfl⟩ (.cons ru .nil), ⟨_, hT2, rfl, _, rfl⟩⟩
    have J : Inv X pins σ (upd H s.heap.objs.size (.tup [.int (i : Nat), x])) { s with heap := h2, toks := tk + 1 } :=
      I.turnedNew (ch := [e, it]) (fun b ob hb q => (sb.2 b (fun z => hb (by simp [z]))).trans (hk b ob (fun z => hb (by simp [z])) (fun z => hb (by simp [z])) q)) hf (Nat.le_refl _) new
    have hi2 : h2.IsTupleIter it a (i + 1) := by
      obtain ⟨⟨o, h1, h3⟩, _⟩ := st2
      exact ⟨o, (sb.2 it (Ne.symm hne)).trans h1, h3⟩
    refine ⟨.ref s.heap.objs.size, _, J, rfl, ⟨_, x, rfl, I.hok.fresh (Nat.le_refl _), rfl, fun ys hy => by rw [I.tuple_inj hy hq]; exact hx⟩, ⟨⟨y, ?_⟩, hi2, hne, by have := (List.getElem?_eq_some_iff.mp hx).1; omega⟩, fun b hb => ?_⟩
    · rw [show ((i + 1 : Nat) : Int) = (i : Int) + 1 by omega]
      exact he2
    · have hb' : b < s.heap.objs.size := by
        rcases List.mem_cons.mp hb with z | z
        · rw [z]; exact hel
        · rw [List.mem_singleton.mp z]; exact hil
      rw [upd_ne (Nat.ne_of_lt hb')]
      exact (hf b hb).1
  done := by
    intro X hP hw hK hc i pins s σ H E I hf st hg
    subst hP hw hK
    obtain ⟨⟨old, he⟩, hit, hne, le⟩ := st
    obtain ⟨xs, hq, hx, eN⟩ := hg
    obtain ⟨its, rv, p, hz⟩ := I.tuple hq
    obtain ⟨f0, f1, f2, f3, f4, f5⟩ := hf it (by simp)
    have hl := rv.length
    have hd : X.A.in1.handled = none := I.ok.hd hc
    have D := Draws.tuple (prog := X.prog) (w := X.w) hd it a (tup_ne p hit) its.toArray
    have ei : i = its.toArray.size := by
      rw [List.size_toArray]
      omega
    rw [ei] at hit he
    exact wpAny_pyNext_enum_endD D he ⟨hit, p⟩ fun h' eb => ⟨rfl, I.turned (t' := s.toks) (fun b o hb q => eb b o hb q) f0 f1 f3 f4 f5⟩
  self := fun A i s Q E st h => let ⟨⟨_, he⟩, _⟩ := st; wpAny_pyIter_enum he h
def iEnumT (K : PySem.W.Frag) (ta : TA) : TI := fun σ H R => ta σ H fun vs H1 => ∃ a xs, vs = [.ref a] ∧ SqT K H1 a xs ∧ R (IteT K a xs.length) H1
theorem pi_enumT {X : Cx} {e : Expr} {ta : TA} {p pos tpos : Pos} {elts : List Expr} {kk : Nat} (hg : Gl X "enumerate") (hm : X.mg "enumerate" = none) (ha : PA X [e] ta) (hs : starEach [e] X.env = [(false, eval e X.env)] := by rfl) :
    PI X (.Tuple elts kk tpos) (.Call (.Name "enumerate" p) [e] [] pos) (iEnumT X.K ta) := by
  refine ⟨fun pins s σ H R I h => ?_⟩
  refine Call_ (ld_blt I hg hm boot_enumerate (PyProof.Rows.callWith_type1 (thn (ha.run pos pins s σ H _ I h) fun us s1 ⟨vs, H1, I1, r1, a, xs, ex, hq, q⟩ => ?_) hs rfl))
  subst ex
  obtain ⟨u, rfl, ru⟩ := r1.one
  cases (show u = Value.ref a from ru)
  obtain ⟨its, rv, p', hz⟩ := I1.tuple hq
  refine enum_tuple (items := its.toArray) p' fun h' he hit hk => wpAny_pyIter_enum he ?_
  have I2 : Inv X pins σ H1 { s1 with heap := h' } := I1.kept (t' := s1.toks) hk
  have la : a < s1.heap.objs.size := by
    obtain ⟨o, ho, _⟩ := p'
    exact Heap.lt_size ho
  refine ⟨s1.heap.objs.size + 1, [s1.heap.objs.size + 1, s1.heap.objs.size], _, _, H1, rfl, I2, turn_enumT a (s1.heap.objs.size + 1) s1.heap.objs.size xs.length (Nat.ne_of_gt (Nat.lt_succ_of_lt la)), ⟨⟨.none, he⟩, hit, Nat.succ_ne_self _, Nat.zero_le _⟩, fun b hb => ?_, q⟩
  have hle : s1.heap.objs.size ≤ b := by
    rcases List.mem_cons.mp hb with z | z
    · rw [z]
      exact Nat.le_succ _
    · rw [List.mem_singleton.mp z]
      exact Nat.le_refl _
  exact I1.fpOk hle (I1.hok.fresh hle)
theorem walk_enumT {K : PySem.W.Frag} {a : Addr} {xs : List V} : Walk (IteT K a xs.length) xs.length (fun H => SqT K H a xs) (YPair (fun i => some (.int (i : Nat))) fun i => xs[i]?) :=
  ⟨fun i _ hi q => ⟨xs, xs[i], q, by simp [hi], rfl⟩, fun _ q => ⟨xs, q, Nat.le_refl _, rfl⟩, fun i H x H' hi q y => by
    obtain ⟨T, z, e1, e2, e3, e4⟩ := y
    exact ⟨T, .int (i : Nat), z, e1, e2, e3, rfl, e4 xs q⟩⟩
end OwnR

set_option Elab.async false
set_option linter.all false
set_option maxRecDepth 100000
set_option maxHeartbeats 1000000
namespace Sl
open PySem PySem.Spec L2 OwnR
theorem eqV_str (a b : Str) : eqV (.str a) (.str b) = decide (a = b) := by
  show (a == b) = decide (a = b)
  by_cases h : a = b
  · rw [h]; simp
  · rw [decide_eq_false h]; simpa using h
theorem inV_str (x : Str) (l : List Str) : inV (.str x) (l.map V.str) = decide (x ∈ l) := by
  unfold inV
  induction l with
  | nil => simp
  | cons y r ih =>
    rw [List.map_cons, List.any_cons, ih, eqV_str]
    by_cases h : y = x
    · subst h; simp
    · have h2 : ¬ x = y := fun z => h z.symm
      simp [h, h2]
theorem tk1 {α : Type} {l : List α} {i : Nat} {x : α} (h : l[i]? = some x) : l.take (i + 1) = l.take i ++ [x] := by
  rw [List.take_add_one, h]
  rfl
theorem flat_strs (l : List Str) : (l.map V.str).all flatV = true := by
  induction l with
  | nil => rfl
  | cons y r ih => rw [List.map_cons, List.all_cons, ih]; rfl
section
variable {P : Program} {w : World} {K : PySem.W.Frag} {mg : Str → Option Value} {base : Heap}
def spCheckCars : Sp := fun vs H Q _ => ∃ (a : Addr) (cars : List Car), vs = [.ref a] ∧ CarsAt H a cars ∧ CarsOk cars ∧ ∀ H', Same H H' → Q .non H'
theorem scCheckCars : FnScope ["cars", "names", "index", "car"] ["cars"] (defScope sCheckCars) := ⟨rfl, rfl, rfl, by decide +kernel, rfl, by decide +kernel, by decide +kernel⟩
theorem ok_checkCars {f fC : Addr} {fd dC : FuncData} (F : Fb K mg "check_cars" sCheckCars ["cars"] f fd) (M : Mg mg) (BC : Fb K mg "is_car" sIsCar ["value"] fC dC)
    (GC : FnOk P w K mg base CX0 2 fC dC ["value"] spIsCar) : FnOk P w K mg base CX0 3 f fd ["cars"] spCheckCars := by
  obtain ⟨t1, M1⟩ := M.mostCars
  refine F.fn.ok scCheckCars (fun vs H Q E h => ?_) (fun cdv A outer s H vs Q E hr h => ?_)
  · obtain ⟨t, c, rfl, _⟩ := h
    rfl
  · obtain ⟨a, cars, rfl, ⟨ts, ha, hlen, hcar⟩, C, k⟩ := h
    have nd := scCheckCars.nd
    refine ⟨_, pss_cons (ps_if (pt_not (pt_val (pe_callB call_isi (by rfl) M.isinstance boot_isinstance (pa_cons (pv 0) (pa_cons (pe_bltn (v := .ty "tuple") (by rfl) M.tuple boot_tTuple rfl) pa_nil))))) (pss_one ps_never) pss_nil)
      (pss_cons (ps_set (i := 1) nd rfl (.inl rfl) (pe_lst pa_nil))
      (pss_one (ps_for PassesOwn.never rfl (pi_enumT (by rfl) M.enumerate (pa_cons (pv 0) pa_nil)) (pg_tup rfl (pgs_cons (pg_name (i := 2) nd rfl (.inl rfl)) (pgs_cons (pg_name (i := 3) nd rfl (.inl rfl)) pgs_nil)))
        (pss_cons (ps_if (PW.pt (pw_or (pt_cmpR op_eq (pv 2) (pe_glob (v := .int 10) (by rfl) M1 ⟨_, rfl⟩) (nomark _)) (pw_or (pt_not (pt_val (pe_call GC hr (by rfl) BC.at_ BC.fn.kp BC.bd .nil pass0 (pa_cons (pv 3) pa_nil))))
            (pw_or1 (pt_cmpR op_in_seq (pe_ix ix_tup (pv 3) pe_int (fun _ _ => rfl)) (pv 1) (by rfl)))))) (pss_one ps_never) pss_nil)
          (pss_one (ps_expr (pe_bm PySem.F.plainAttrs_list PySem.F.slot_list_append PySem.F.type_list_append mt_append (pv 1) (pa_cons (pe_ix ix_tup (pv 3) pe_int (fun _ _ => rfl)) pa_nil)))))))), ?_⟩
    refine ⟨_, rfl, _, _, _, _, true, rfl, .ty _, .base (.tup ha), kit_ty (by decide +kernel), true, rfl, iteF ?_⟩
    refine ⟨Nat.zero_le _, fun l hl => ?_⟩
    have hts : (ts.map V.ref).length = cars.length := by rw [List.length_map, hlen]
    refine ⟨_, rfl, a, ts.map V.ref, rfl, SqT.of (by rw [upd_ne (ne_of_none ha hl)]; exact ha), for_it walk_enumT
      (fun i σ H1 => ∃ v2 v3, σ = [some (.ref a), some (.ref l), v2, v3] ∧ Same H H1 ∧ H1 l = some (.lst (((cars.take i).map (·.name)).map V.str)))
      ⟨none, none, rfl, fun b o e => by rw [upd_ne (ne_of_none e hl)]; exact e, upd_same⟩ (fun i σ H1 _ ⟨_, _, _, s1, _⟩ => SqT.of (s1 _ _ ha)) ?_ ?_⟩
    · rintro i x σ H1 H2 hi ⟨v2, v3, rfl, s1, hL⟩ ⟨T, x1, x2, rfl, hT, rfl, e1, e2⟩
      cases e1
      have hic : i < cars.length := by rw [hts] at hi; exact hi
      obtain ⟨t, ht, rfl⟩ : ∃ t, ts[i]? = some t ∧ x2 = V.ref t := by
        have e2 : (ts.map V.ref)[i]? = some x2 := e2
        rw [List.getElem?_map] at e2
        obtain ⟨t, z1, z2⟩ := Option.map_eq_some_iff.mp e2
        exact ⟨t, z1, z2.symm⟩
      have hc : cars[i]? = some cars[i] := List.getElem?_eq_getElem hic
      have hct := hcar i t _ ht hc
      have sT : Same H1 (upd H1 T (.tup [.int (i : Nat), .ref t])) := fun b o e => by rw [upd_ne (ne_of_none e hT)]; exact e
      have h2 := sT _ _ (s1 _ _ hct)
      have C0 := C.all _ (List.getElem_mem hic)
      refine ⟨T, _, rfl, SqT.of upd_same, rfl, _, _, rfl, _, _, rfl, rfl, ?_⟩
      refine ⟨_, rfl, rfl, _, rfl, ?_⟩
      have ne10 : ¬ (V.int (i : Nat) = V.int 10) := fun z => by
        injection z with z
        have := C.few
        omega
      rw [decide_eq_false ne10]
      refine iteF ?_
      refine ⟨_, rfl, t, cars[i], rfl, h2, C0, fun H3 s3 => ⟨true, rfl, iteF ?_⟩⟩
      refine ⟨_, rfl, t, _, 0, .str cars[i].name, rfl, rfl, SqT.of (s3 _ _ h2), rfl, _, rfl, l, _, rfl, .inl (SqL.of (s3 _ _ (sT _ _ hL))), rfl, flat_strs _, false, ?_, iteF ?_⟩
      · rw [inV_str]
        have : ¬ cars[i].name ∈ (cars.take i).map (·.name) := fun hm => by
          obtain ⟨j, hj⟩ := List.mem_iff_getElem?.mp hm
          rw [List.getElem?_map] at hj
          obtain ⟨c', hc', en⟩ := Option.map_eq_some_iff.mp hj
          have hj2 : j < i := by
            have := (List.getElem?_eq_some_iff.mp hc').1
            rw [List.length_take] at this
            omega
          rw [List.getElem?_take_of_lt hj2] at hc'
          have a1 : (cars.map (·.name))[j]? = some cars[i].name := by rw [List.getElem?_map, hc']; exact congrArg some en
          have a2 : (cars.map (·.name))[i]? = some cars[i].name := by rw [List.getElem?_map, hc]; rfl
          have := nd_ix C.nd a1 a2
          omega
        rw [decide_eq_false this]
        rfl
      · have hl3 := s3 _ _ (sT _ _ hL)
        refine ⟨_, rfl, .inl ⟨rfl, _, SqL.of hl3⟩, _, rfl, t, _, 0, .str cars[i].name, rfl, rfl, SqT.of (s3 _ _ h2), rfl, l, _, _, rfl, rfl, hl3, ?_, ?_⟩
        · rw [List.length_map, List.length_map, List.length_take]
          have := C.few
          exact small1000 (by omega)
        · refine ⟨_, _, rfl, fun b o e => ?_, ?_⟩
          · rw [upd_ne (ne_of_none e hl)]
            exact s3 _ _ (sT _ _ (s1 _ _ e))
          · rw [upd_same, tk1 hc, List.map_append, List.map_append]
            rfl
    · rintro σ H1 ⟨v2, v3, rfl, s1, hL⟩
      exact k H1 s1
end
end Sl

set_option Elab.async false
set_option linter.all false
set_option maxRecDepth 100000
set_option maxHeartbeats 1000000
namespace Sl
open PySem PySem.Spec L2 OwnR LamX
/-- a def whose code object's address is known -/
structure FunC (K : PySem.W.Frag) (x qual : Str) (st : Stmt) (f : Addr) (fd : FuncData) (c : Addr) : Prop where
  ex : ∃ (oc : Value) (od : Option Addr) (kV doc pm : Value) (an : Option Addr) (ct : Value) (osl : Array (Option Value)),
    fd = PySem.W.fnOf x qual (defArgs st) (defBody st) (defScope st) .none kV doc pm an (.ref c) ct ∧ K.lookup f = some ⟨oc, od, .func fd, osl⟩ ∧ PySem.W.codeIn K (.ref c) qual = true
  kp : PySem.W.keepIn K (.ref f) = true
section
variable {P : Program} {w : World} {K : PySem.W.Frag} {mg : Str → Option Value} {base : Heap}
theorem FunC.ok {x qual : Str} {st : Stmt} {f c : Addr} {fd : FuncData} {N ps : List Str} {k : Nat} {sp : Sp} (F : FunC K x qual st f fd c) (S : FnScope N ps (defScope st)) (len : ∀ vs H Q E, sp vs H Q E → vs.length = ps.length)
    (hbody : ∀ (A : Around) (outer : List Env) (s : Shared) (H : Hp) (vs : List V) (Q : VK) (E : XK), Room k (A.deeper (PyProof.Rows.envOfC qual (defScope st) s.heap.objs.size f (.ref c))) → sp vs H Q E →
      ∃ t, PSs (cxOf CX0 P w K mg base N qual (defScope st) f (.ref c) A outer s H E).nox (defBody st) t ∧ t { nx := fun _ H' => Q .non H', rt := Q } (start N vs) H) : FnOk P w K mg base CX0 (k + 1) f fd ps sp := by
  obtain ⟨oc, od, kV, doc, pm, an, ct, osl, rfl, lk, hcd⟩ := F.ex
  refine fn_of lk hcd S len fun A outer s H vs Q E hr hsp => ?_
  obtain ⟨t, h, q⟩ := hbody A outer s H vs Q E hr hsp
  exact ⟨t, h.nox, q⟩
structure FbC (K : PySem.W.Frag) (mg : Str → Option Value) (x : Str) (st : Stmt) (ps : List Str) (f : Addr) (fd : FuncData) (c : Addr) : Prop where
  fn : FunC K x x st f fd c
  at_ : mg x = some (.ref f)
  bd : Binds K fd ps []
/-- what stands behind a step that may have made code objects -/
theorem ExtN.same {H H' : Hp} (e : Same H H') : ExtN H H' := fun b o h _ => e b o h
theorem ExtN.lst {H H' : Hp} (e : ExtN H H') {a : Addr} {xs : List V} (h : H a = some (.lst xs)) : H' a = some (.lst xs) := e _ _ h (fun _ z => nomatch z)
theorem ExtN.tup {H H' : Hp} (e : ExtN H H') {a : Addr} {xs : List V} (h : H a = some (.tup xs)) : H' a = some (.tup xs) := e _ _ h (fun _ z => nomatch z)
theorem ExtN.dK {H H' : Hp} (e : ExtN H H') {a : Addr} {xs : List (Key × V)} (h : H a = some (.dK xs)) : H' a = some (.dK xs) := e _ _ h (fun _ z => nomatch z)
theorem ExtN.ins {H H' : Hp} (e : ExtN H H') {a C d : Addr} {xs : List (Str × V)} (h : H a = some (.ins C d xs)) : H' a = some (.ins C d xs) := e _ _ h (fun _ z => nomatch z)
theorem ExtN.sqT {H H' : Hp} (e : ExtN H H') {a : Addr} {xs : List V} (h : SqT K H a xs) : SqT K H' a xs := by
  rcases h with (h | ⟨o, h⟩) | h
  · exact .inl (.inl (e _ _ h fun _ z => nomatch z))
  · exact .inl (.inr ⟨o, e _ _ h fun _ z => nomatch z⟩)
  · exact .inr h
theorem ExtN.sqL {H H' : Hp} (e : ExtN H H') {a : Addr} {xs : List V} (h : SqL K H a xs) : SqL K H' a xs := by
  rcases h with (h | ⟨o, h⟩) | h
  · exact .inl (.inl (e _ _ h fun _ z => nomatch z))
  · exact .inl (.inr ⟨o, e _ _ h fun _ z => nomatch z⟩)
  · exact .inr h
theorem CarsAt.ext {H H' : Hp} {a : Addr} {cars : List Car} (h : CarsAt H a cars) (e : ExtN H H') : CarsAt H' a cars := by
  obtain ⟨ts, h1, h2, h3⟩ := h
  exact ⟨ts, ExtN.tup e h1, h2, fun i t c e1 e2 => ExtN.tup e (h3 i t c e1 e2)⟩
/-! ### _in_order -/
/-- nothing that was tracked, but tables, stands at D -/
def New (H : Hp) (D : Addr) : Prop := ∀ b o, H b = some o → (∀ ps, o ≠ .tbl ps) → b ≠ D
theorem New.of {H : Hp} {D : Addr} (h : H D = none) : New H D := fun b o e _ => ne_of_none e h
theorem New.ext {H H' : Hp} {D : Addr} (e : ExtN H H') (h : New H' D) : New H D := fun b o x n => h b o (e b o x n) n
theorem zip_self (tk : Str → Int) : ∀ names : List Str, (names.map tk).zip (names.map V.str) = (names.map fun n => (tk n, n)).map fun q => (q.1, V.str q.2)
  | [] => rfl
  | n :: r => by
    simp only [List.map_cons, List.zip_cons_cons]
    rw [zip_self tk r]
def qInOrder : Str := ("_in_order" : Str) ++ (".<locals>." : Str) ++ ("<lambda>" : Str)
def spInOrder (K : PySem.W.Frag) (T : List (Addr × Str)) : Sp := fun vs H Q _ => ∃ (p d : Addr) (names : List Str) (kvs : List (Key × V)) (tk : Str → Int), vs = [.ref p, .ref d] ∧ SqL K H p (names.map V.str) ∧ H d = some (.dK kvs) ∧
  (∀ n ∈ names, valV kvs (.inr n) = some (.int (tk n))) ∧ Tabs T H ∧ ∀ H' D, ExtN H H' → Tabs T H' → New H D → H' D = some (.lst ((sortBy tk names).map V.str)) → Q (.ref D) H'
theorem scInOrder : FnScope ["names", "ticks"] ["names", "ticks"] (defScope sInOrder) := ⟨rfl, rfl, rfl, by decide +kernel, rfl, by decide +kernel, by decide +kernel⟩
theorem ok_inOrder {f c Pt : Addr} {fd : FuncData} {T : List (Addr × Str)} (F : FbC K mg "_in_order" sInOrder ["names", "ticks"] f fd c) (M : Mg mg) (TB : TabB base mg c Pt) (hm : (Pt, qInOrder) ∈ T) (hu : ∀ p ∈ T, p.1 = Pt → p.2 = qInOrder) :
    FnOk P w K mg base CX0 3 f fd ["names", "ticks"] (spInOrder K T) := by
  refine F.fn.ok scInOrder (fun vs H Q E h => ?_) (fun A outer s H vs Q E hr h => ?_)
  · obtain ⟨p, d, names, kvs, tk, rfl, _⟩ := h
    rfl
  · obtain ⟨p, d, names, kvs, tk, rfl, hp, hd, hk, hT, k⟩ := h
    refine ⟨_, pss_one (ps_ret (pe_sortLam (par := "name") hr TB rfl hm hu (by rfl) M.sorted (lamP_by (sc := defScope sInOrder) (by decide +kernel)) (pv 0) (pk_dict (j := 1) rfl (by decide +kernel) (by decide +kernel) (lamP_by (sc := defScope sInOrder) (by decide +kernel)) (Or.inr (Or.inl rfl))))), ?_⟩
    refine ⟨_, rfl, p, names.map V.str, names.map tk, rfl, .inl hp, by simp, hT, fun H2 e i x kk hx hkk => ?_, fun H2 D e T2 fD => ?_⟩
    · rw [List.getElem?_map] at hx hkk
      obtain ⟨n, hn, rfl⟩ := Option.map_eq_some_iff.mp hx
      rw [hn] at hkk
      cases hkk
      exact ⟨d, kvs, .inr n, rfl, .inl (ExtN.dK e hd), rfl, hk n (List.mem_of_getElem? hn)⟩
    · have e1 : (isort ((names.map tk).zip (names.map V.str))).map (·.2) = (sortBy tk names).map V.str := by
        rw [zip_self, isort_map, List.map_map]
        unfold sortBy
        rw [List.map_map]
        rfl
      rw [e1]
      exact k _ D (fun b o h n => by rw [upd_ne (ne_of_none (e b o h n) fD)]; exact e b o h n) (T2.ext fun b o h => by rw [upd_ne (ne_of_none h fD)]; exact h) (New.ext e (New.of fD)) upd_same
end
end Sl

/-! The mathematics of driving: rows of (name, tick, leader) behind a section. -/
namespace Sl
open OwnR
section
variable {N : Type} [DecidableEq N]
abbrev RowT (N : Type) := N × Int × Option N
/-- one more car enters a narrow section -/
def fnext (free : N → Int) (acc : List (RowT N)) (n : N) : RowT N :=
  match acc.getLast? with
  | none => (n, free n, none)
  | some (a, t, l) => if free n < t then (n, t, some (l.getD a)) else (n, free n, none)
def foll (free : N → Int) (order : List N) : List (RowT N) := order.foldl (fun acc n => acc ++ [fnext free acc n]) []
theorem fnext_name (free : N → Int) (acc : List (RowT N)) (n : N) : (fnext free acc n).1 = n := by
  unfold fnext
  split
  · rfl
  · split <;> rfl
theorem foll_snoc (free : N → Int) (order : List N) (n : N) : foll free (order ++ [n]) = foll free order ++ [fnext free (foll free order) n] := by
  unfold foll
  rw [List.foldl_append]
  rfl
theorem foll_names (free : N → Int) (order : List N) : (foll free order).map (·.1) = order := by
  have h : ∀ (l : List N) (acc : List (RowT N)), (l.foldl (fun acc n => acc ++ [fnext free acc n]) acc).map (·.1) = acc.map (·.1) ++ l := by
    intro l
    induction l with
    | nil => intro acc; simp
    | cons n r ih =>
      intro acc
      rw [List.foldl_cons, ih, List.map_append, List.append_assoc]
      simp [fnext_name]
  have := h order []
  simpa [foll] using this
theorem foll_length (free : N → Int) (order : List N) : (foll free order).length = order.length := by
  have := congrArg List.length (foll_names free order)
  simpa using this
/-- what a row list tells of a name -/
def look (acc : List (RowT N)) (n : N) : Option (Int × Option N) := (acc.find? fun r => decide (r.1 = n)).map (·.2)
theorem look_nil (n : N) : look ([] : List (RowT N)) n = none := rfl
theorem look_none {acc : List (RowT N)} {n : N} (h : n ∉ acc.map (·.1)) : look acc n = none := by
  unfold look
  rw [List.find?_eq_none.mpr]
  · rfl
  · intro r hr
    simp only [decide_eq_true_eq]
    intro e
    exact h (List.mem_map.mpr ⟨r, hr, e⟩)
theorem look_snoc (acc : List (RowT N)) (r : RowT N) (m : N) (h : r.1 ∉ acc.map (·.1)) : look (acc ++ [r]) m = if m = r.1 then some r.2 else look acc m := by
  by_cases e : m = r.1
  · subst e
    have h1 : acc.find? (fun x => decide (x.1 = r.1)) = none := by
      rw [List.find?_eq_none]
      intro x hx
      simp only [decide_eq_true_eq]
      exact fun z => h (List.mem_map.mpr ⟨x, hx, z⟩)
    unfold look
    rw [List.find?_append, h1]
    simp
  · rw [if_neg e]
    unfold look
    rw [List.find?_append]
    have h1 : ([r] : List (RowT N)).find? (fun x => decide (x.1 = m)) = none := by
      have : ¬ r.1 = m := fun z => e z.symm
      simp [this]
    rw [h1]
    simp
theorem look_get {acc : List (RowT N)} (nd : (acc.map (·.1)).Nodup) {i : Nat} {r : RowT N} (h : acc[i]? = some r) : look acc r.1 = some r.2 := by
  induction acc generalizing i with
  | nil => simp at h
  | cons a l ih =>
    rw [List.map_cons, List.nodup_cons] at nd
    cases i with
    | zero =>
      have e : a = r := by simpa using h
      subst e
      unfold look
      simp
    | succ j =>
      have hj : l[j]? = some r := by simpa using h
      have hm : r.1 ∈ l.map (·.1) := List.mem_map.mpr ⟨r, List.mem_of_getElem? hj, rfl⟩
      have hne : ¬ a.1 = r.1 := fun z => nd.1 (z ▸ hm)
      have := ih nd.2 hj
      unfold look at this ⊢
      rw [List.find?_cons, decide_eq_false hne]
      exact this
theorem look_some {acc : List (RowT N)} {n : N} (h : n ∈ acc.map (·.1)) : ∃ x, look acc n = some x := by
  obtain ⟨r, hr, e⟩ := List.mem_map.mp h
  unfold look
  cases q : acc.find? (fun r => decide (r.1 = n)) with
  | none =>
    rw [List.find?_eq_none] at q
    have := q r hr
    simp [e] at this
  | some z => exact ⟨z.2, rfl⟩
def tickOf (acc : List (RowT N)) (n : N) : Int := ((look acc n).map (·.1)).getD 0
def leadOf (acc : List (RowT N)) (n : N) : Option N := (look acc n).bind (·.2)
end
end Sl

set_option Elab.async false
set_option linter.all false
set_option maxRecDepth 100000
set_option maxHeartbeats 1000000
namespace Sl
open PySem PySem.Spec L2 OwnR LamX
theorem key_eq (a b : Str) : ((Sum.inr a : Key) = Sum.inr b) = (a = b) := by
  refine propext ⟨fun h => Sum.inr.inj h, fun h => congrArg _ h⟩
/-- a dict of ticks, a dict of leaders, as the rows tell -/
def TkD (kvs : List (Key × V)) (acc : List (RowT Str)) : Prop := ∀ n, valV kvs (Sum.inr n : Key) = (look acc n).map fun x => V.int x.1
def LdD (kvs : List (Key × V)) (acc : List (RowT Str)) : Prop := ∀ n, valV kvs (Sum.inr n : Key) = (look acc n).bind fun x => x.2.map V.str
theorem valV_putS (kvs : List (Key × V)) (k j : Str) (y : V) : valV (putK kvs (Sum.inr k : Key) y) (Sum.inr j : Key) = if j = k then some y else valV kvs (Sum.inr j : Key) := by
  rw [valV_put]
  by_cases e : j = k
  · rw [if_pos e, if_pos (congrArg _ e)]
  · rw [if_neg e, if_neg (fun z => e (Sum.inr.inj z))]
theorem gk {H : Hp} {a : Addr} {kvs : List (Key × V)} {n : Str} {v : V} (e : H a = some (.dK kvs)) (h : valV kvs (Sum.inr n : Key) = some v) : DGet H a (.str n) (some v) := by
  have q := DGet.k (k := (Sum.inr n : Key)) e
  rw [h] at q
  exact q
theorem gk0 {H : Hp} {a : Addr} {kvs : List (Key × V)} {n : Str} {o : Option V} (e : H a = some (.dK kvs)) (h : valV kvs (Sum.inr n : Key) = o) : DGet H a (.str n) o := by
  have q := DGet.k (k := (Sum.inr n : Key)) e
  rw [h] at q
  exact q
theorem look_last {acc : List (RowT Str)} (nd : (acc.map (·.1)).Nodup) {r : RowT Str} (h : acc.getLast? = some r) : look acc r.1 = some r.2 := by
  rw [List.getLast?_eq_getElem?] at h
  exact look_get nd h
theorem TkD.put {kvs : List (Key × V)} {acc : List (RowT Str)} {r : RowT Str} (h : TkD kvs acc) (hn : r.1 ∉ acc.map (·.1)) : TkD (putK kvs (Sum.inr r.1 : Key) (.int r.2.1)) (acc ++ [r]) := by
  intro m
  rw [valV_putS, look_snoc acc r m hn]
  by_cases e : m = r.1
  · rw [if_pos e, if_pos e]; rfl
  · rw [if_neg e, if_neg e]; exact h m
theorem TkD.put2 {kvs : List (Key × V)} {acc : List (RowT Str)} {r : RowT Str} {y : V} (h : TkD kvs acc) (hn : r.1 ∉ acc.map (·.1)) : TkD (putK (putK kvs (Sum.inr r.1 : Key) y) (Sum.inr r.1 : Key) (.int r.2.1)) (acc ++ [r]) := by
  intro m
  rw [valV_putS, valV_putS, look_snoc acc r m hn]
  by_cases e : m = r.1
  · rw [if_pos e, if_pos e]; rfl
  · rw [if_neg e, if_neg e, if_neg e]; exact h m
theorem LdD.put {kvs : List (Key × V)} {acc : List (RowT Str)} {r : RowT Str} {l : Str} (h : LdD kvs acc) (hn : r.1 ∉ acc.map (·.1)) (hl : r.2.2 = some l) : LdD (putK kvs (Sum.inr r.1 : Key) (.str l)) (acc ++ [r]) := by
  intro m
  rw [valV_putS, look_snoc acc r m hn]
  by_cases e : m = r.1
  · rw [if_pos e, if_pos e]; simp [hl]
  · rw [if_neg e, if_neg e]; exact h m
theorem LdD.skip {kvs : List (Key × V)} {acc : List (RowT Str)} {r : RowT Str} (h : LdD kvs acc) (hn : r.1 ∉ acc.map (·.1)) (hl : r.2.2 = none) : LdD kvs (acc ++ [r]) := by
  intro m
  rw [look_snoc acc r m hn]
  by_cases e : m = r.1
  · rw [if_pos e, h m, e, look_none hn]; simp [hl]
  · rw [if_neg e]; exact h m
section
variable {P : Program} {w : World} {K : PySem.W.Frag} {mg : Str → Option Value} {base : Heap}
def spFollow (K : PySem.W.Frag) : Sp := fun vs H Q _ => ∃ (p d : Addr) (order : List Str) (kvs : List (Key × V)) (fr : Str → Int), vs = [.ref p, .ref d] ∧ SqL K H p (order.map V.str) ∧ H d = some (.dK kvs) ∧
  (∀ n ∈ order, valV kvs (Sum.inr n : Key) = some (.int (fr n))) ∧ order.Nodup ∧ order.length ≤ 100 ∧
  ∀ H' t L G kL kG, Same H H' → H L = none → H G = none → L ≠ G → H' t = some (.tup [.ref L, .ref G]) → H' L = some (.dK kL) → H' G = some (.dK kG) → TkD kL (foll fr order) → LdD kG (foll fr order) → Q (.ref t) H'
theorem scFollow : FnScope ["order", "free", "left", "leaders", "ahead", "name"] ["order", "free"] (defScope sFollow) := ⟨rfl, rfl, rfl, by decide +kernel, rfl, by decide +kernel, by decide +kernel⟩
def aheadV (acc : List (RowT Str)) : V := match acc.getLast? with
  | none => .non
  | some r => .str r.1
theorem ok_follow {f : Addr} {fd : FuncData} (F : Fb K mg "_follow" sFollow ["order", "free"] f fd) : FnOk P w K mg base CX0 1 f fd ["order", "free"] (spFollow K) := by
  refine F.fn.ok scFollow (fun vs H Q E h => ?_) (fun cdv A outer s H vs Q E hr h => ?_)
  · obtain ⟨p, d, o, kvs, fr, rfl, _⟩ := h
    rfl
  · obtain ⟨p, d, order, kvs, fr, rfl, hp, hd, hk, hnd, hlen, k⟩ := h
    have nd := scFollow.nd
    have hu := hu_of hr
    refine ⟨_, pss_cons (ps_set (i := 2) nd rfl (.inl rfl) pe_dnewK) (pss_cons (ps_set (i := 3) nd rfl (.inl rfl) pe_dnewK) (pss_cons (ps_set (i := 4) nd rfl (.inl rfl) pe_non)
      (pss_cons (ps_for PassesOwn.never rfl (pi_list (pv 0)) (pg_name (i := 5) nd rfl (.inl rfl))
        (pss_cons (ps_dput hu (pv 2) (pv 5) (pe_dget hu (pv 1) (pv 5) (fun _ _ => rfl)) rfl)
        (pss_cons (ps_if (PW.pt (pw_and (pt_cmp (pc_notN (pv 4))) (pw_and1 (pt_cmpR op_lt (pe_dget hu (pv 1) (pv 5) (fun _ _ => rfl)) (pe_dget hu (pv 2) (pv 4) (fun _ _ => rfl)) (nomark _)))))
            (pss_cons (ps_dput hu (pv 2) (pv 5) (pe_dget hu (pv 2) (pv 4) (fun _ _ => rfl)) rfl) (pss_one (ps_dput hu (pv 3) (pv 5) (pe_dget2 hu (pv 3) (pv 4) (pv 4) ⟨rfl, rfl, rfl, rfl⟩) rfl))) pss_nil)
          (pss_one (ps_set (i := 4) nd rfl (.inl rfl) (pv 5))))))
      (pss_one (ps_ret (pe_tup (pa_cons (pv 2) (pa_cons (pv 3) pa_nil)))))))), ?_⟩
    intro L hL G hG
    have nLG : L ≠ G := ne_of_none (H := upd H L (.dK [])) upd_same hG
    have hG0 : H G = none := by rw [upd_ne nLG.symm] at hG; exact hG
    have ndL : d ≠ L := ne_of_none hd hL
    have ndG : d ≠ G := ne_of_none hd hG0
    have s0 : Same H (upd (upd H L (.dK [])) G (.dK [])) := fun b o e => by rw [upd_ne (ne_of_none e hG0), upd_ne (ne_of_none e hL)]; exact e
    refine ⟨_, rfl, p, rfl, ⟨_, s0.seq hp⟩, for_list (K := K) (a := p) (xs := order.map V.str) (fun i σ H1 => ∃ v5 kL kG, σ = [some (.ref p), some (.ref d), some (.ref L), some (.ref G), some (aheadV (foll fr (order.take i))), v5] ∧ Same H H1 ∧
        H1 L = some (.dK kL) ∧ H1 G = some (.dK kG) ∧ TkD kL (foll fr (order.take i)) ∧ LdD kG (foll fr (order.take i)) ∧ kL.length ≤ 2 * i ∧ kG.length ≤ i)
      ⟨none, [], [], rfl, s0, by rw [upd_ne nLG, upd_same], upd_same, fun n => rfl, fun n => rfl, Nat.zero_le _, Nat.zero_le _⟩ (fun i σ H1 _ ⟨_, _, _, _, s1, _⟩ => s1.seq hp) ?_ ?_⟩
    · rintro i x σ H1 hi ⟨v5, kL, kG, rfl, s1, h1, h2, tL, tG, lL, lG⟩
      obtain ⟨n, hn, rfl⟩ : ∃ n, order[i]? = some n ∧ x = V.str n := by
        rw [List.getElem?_map] at hi
        obtain ⟨n, z1, z2⟩ := Option.map_eq_some_iff.mp hi
        exact ⟨n, z1, z2.symm⟩
      have hil : i < order.length := (List.getElem?_eq_some_iff.mp hn).1
      have hfr := hk n (List.mem_of_getElem? hn)
      have hd1 := s1 _ _ hd
      have enames := foll_names fr (order.take i)
      have hnew : n ∉ (foll fr (order.take i)).map (·.1) := by
        rw [enames]
        intro hm
        obtain ⟨j, hj⟩ := List.mem_iff_getElem?.mp hm
        have hj2 : j < i := by
          have := (List.getElem?_eq_some_iff.mp hj).1
          rw [List.length_take] at this
          omega
        rw [List.getElem?_take_of_lt hj2] at hj
        have := nd_ix hnd hj hn
        omega
      have etk : foll fr (order.take (i + 1)) = foll fr (order.take i) ++ [fnext fr (foll fr (order.take i)) n] := by rw [tk1 hn, foll_snoc]
      have lk := fun m => look_snoc (foll fr (order.take i)) (fnext fr (foll fr (order.take i)) n) m (by rw [fnext_name]; exact hnew)
      rw [fnext_name] at lk
      have hndA : ((foll fr (order.take i)).map (·.1)).Nodup := by
        rw [enames]
        exact hnd.sublist (List.take_sublist _ _)
      rw [etk]
      generalize foll fr (order.take i) = acc at *
      have hn1 : (fnext fr acc n).1 ∉ acc.map (·.1) := by rw [fnext_name]; exact hnew
      have zL : kL.length < sizeLine := small1000 (by omega)
      have zG : kG.length < sizeLine := small1000 (by omega)
      have nLG2 : L ≠ G := nLG
      refine ⟨_, rfl, _, rfl, d, _, rfl, gk hd1 hfr, _, rfl, _, rfl, L, _, rfl, DPut.k (k := (Sum.inr n : Key)) h1 zL, ?_⟩
      have l1 := length_putK kL (Sum.inr n : Key) (.int (fr n))
      have hLast : ∀ (r : RowT Str), aheadV (acc ++ [r]) = .str r.1 := fun r => by
        unfold aheadV
        rw [List.getLast?_append]
        rfl
      have sL : Same H (upd H1 L (.dK (putK kL (Sum.inr n : Key) (.int (fr n))))) := fun b o e => by rw [upd_ne (ne_of_none e hL)]; exact s1 b o e
      cases hl : acc.getLast? with
      | none =>
        have eV : aheadV acc = .non := by unfold aheadV; rw [hl]
        have ef : fnext fr acc n = (n, fr n, none) := by unfold fnext; rw [hl]
        rw [eV]
        refine ⟨_, rfl, _, rfl, ?_⟩
        rw [show (!decide (V.non = V.non)) = false by simp]
        refine iteF ?_
        refine iteF ?_
        rw [ef] at hn1 ⊢
        refine ⟨_, rfl, some (.str n), _, _, ?_, sL, upd_same, by rw [upd_ne nLG.symm]; exact h2, tL.put (r := (n, fr n, none)) hn1, tG.skip hn1 rfl, by omega, by omega⟩
        rw [hLast]
        rfl
      | some r =>
        obtain ⟨a, t, l⟩ := r
        have eV : aheadV acc = .str a := by unfold aheadV; rw [hl]
        have la := look_last hndA hl
        have nea : a ≠ n := fun z => by
          rw [z, look_none hnew] at la
          cases la
        have ga : valV (putK kL (Sum.inr n : Key) (.int (fr n))) (Sum.inr a : Key) = some (.int t) := by
          rw [valV_putS, if_neg nea, tL a, la]
          rfl
        have gL : upd H1 L (.dK (putK kL (Sum.inr n : Key) (.int (fr n)))) L = some (.dK (putK kL (Sum.inr n : Key) (.int (fr n)))) := upd_same
        rw [eV]
        refine ⟨_, rfl, _, rfl, ?_⟩
        rw [show (!decide (V.str a = V.non)) = true by simp]
        refine iteT ?_
        refine ⟨_, rfl, _, rfl, d, _, rfl, gk (by rw [upd_ne ndL]; exact hd1) hfr, _, rfl, _, rfl, L, _, rfl, gk gL ga, fr n, t, rfl, rfl, _, rfl, ?_⟩
        by_cases hc : fr n < t
        · rw [decide_eq_true hc]
          refine iteT ?_
          have ef : fnext fr acc n = (n, t, some (l.getD a)) := by
            unfold fnext
            rw [hl]
            exact if_pos hc
          have gG : valV kG (Sum.inr a : Key) = l.map V.str := by rw [tG a, la]; rfl
          have l2 := length_putK (putK kL (Sum.inr n : Key) (.int (fr n))) (Sum.inr n : Key) (.int t)
          have l3 := length_putK kG (Sum.inr n : Key) (.str (l.getD a))
          have eg : ((l.map V.str).getD (.str a)) = V.str (l.getD a) := by cases l <;> rfl
          rw [ef] at hn1 ⊢
          refine ⟨_, rfl, _, rfl, L, _, rfl, gk gL ga, _, rfl, _, rfl, L, _, rfl, DPut.k (k := (Sum.inr n : Key)) gL (small1000 (by omega)), ?_⟩
          have gG2 : (upd (upd H1 L (.dK (putK kL (Sum.inr n : Key) (.int (fr n))))) L (.dK (putK (putK kL (Sum.inr n : Key) (.int (fr n))) (Sum.inr n : Key) (.int t)))) G = some (.dK kG) := by rw [upd_ne nLG.symm, upd_ne nLG.symm]; exact h2
          refine ⟨_, rfl, G, rfl, .inl ⟨_, .inl gG2⟩, _, rfl, _, rfl, _, gk0 gG2 gG, ?_⟩
          rw [eg]
          refine ⟨_, rfl, _, rfl, G, _, rfl, DPut.k (k := (Sum.inr n : Key)) gG2 zG, ?_⟩
          refine ⟨_, rfl, some (.str n), _, _, ?_, fun b o e => ?_, by rw [upd_ne nLG, upd_same], upd_same, tL.put2 (r := (n, t, some (l.getD a))) hn1, tG.put (r := (n, t, some (l.getD a))) hn1 rfl, Nat.le_trans l2 (by omega), Nat.le_trans l3 (by omega)⟩
          · rw [hLast]
            rfl
          · rw [upd_ne (ne_of_none e hG0), upd_ne (ne_of_none e hL)]
            exact sL b o e
        · rw [decide_eq_false hc]
          refine iteF ?_
          have ef : fnext fr acc n = (n, fr n, none) := by
            unfold fnext
            rw [hl]
            exact if_neg hc
          rw [ef] at hn1 ⊢
          refine ⟨_, rfl, some (.str n), _, _, ?_, sL, upd_same, by rw [upd_ne nLG.symm]; exact h2, tL.put (r := (n, fr n, none)) hn1, tG.skip hn1 rfl, by omega, by omega⟩
          rw [hLast]
          rfl
    · rintro σ H1 ⟨v5, kL, kG, rfl, s1, h1, h2, tL, tG, lL, lG⟩
      have e3 : order.take (order.map V.str).length = order := by rw [List.length_map, List.take_length]
      rw [e3] at tL tG
      refine ⟨_, rfl, _, rfl, by show 2 ≤ sizeLine; decide, fun t ht => ?_⟩
      exact k _ t L G kL kG (fun b o e => by rw [upd_ne (ne_of_none (s1 _ _ e) ht)]; exact s1 b o e) hL hG0 nLG upd_same (by rw [upd_ne (ne_of_none h1 ht)]; exact h1) (by rw [upd_ne (ne_of_none h2 ht)]; exact h2) tL tG
end
end Sl

set_option Elab.async false
set_option linter.all false
set_option maxRecDepth 100000
set_option maxHeartbeats 1000000
namespace OwnR
open PySem PySem.Spec PyProof.Rows L2
theorem fold_flat : ∀ (l : List (Array Nat)) (acc : Array Nat), (l.foldl (· ++ ·) acc).toList = acc.toList ++ (l.map (·.toList)).flatten
  | [], acc => by simp
  | a :: r, acc => by
    rw [List.foldl_cons, fold_flat r, List.map_cons, List.flatten_cons]
    simp
/-- z * n, a text repeated, n from 1 -/
def rRepS : R2 := fun x y H Q => ∃ (z : Str) (n : Nat), x = .str z ∧ y = .int (n : Int) ∧ 1 ≤ n ∧ n ≤ 1000000 ∧ z.length * n ≤ 1000000 ∧ ∀ u : Str, u.cps.toList = (List.replicate n z.cps.toList).flatten → Q (.str u) H
theorem line_big : 1000000 ≤ sizeLine := by decide
theorem op_repS {X : Cx} : OpR X (binaryOp .Mult) rRepS := by
  intro pins s σ H x y v u Q I rx ry h
  obtain ⟨z, n, rfl, rfl, h1, hn, hz, q⟩ := h
  obtain ⟨t, rfl⟩ := (show ∃ t, v = Value.str z t from rx)
  obtain ⟨t', rfl⟩ := (show ∃ t, u = Value.int (n : Int) t from ry)
  have hn1 : ¬ (n : Int) < 1 := by omega
  have hzl : (z.length : Int) * (n : Int) ≤ 1000000 := by
    rw [← Int.natCast_mul]
    generalize z.length * n = mm at hz
    omega
  refine P.mul_str (by
      rw [decide_eq_false (by omega : ¬ (n : Int) < -(2 ^ 63)), decide_eq_false (by omega : ¬ (n : Int) ≥ 2 ^ 63)]
      rfl) (fun _ hne => ?_) (fun _ hne => ?_) ?_
  · have e1 : (z.length : Int) ≤ (2 ^ 63 - 1 : Int) / (n : Int) := by
      refine Int.le_ediv_of_mul_le (by omega) ?_
      exact Int.le_trans hzl (by decide)
    exact Int.not_lt.mpr e1
  · unfold Builtin.Str.tooLong
    have e2 : z.length * (n : Int).toNat ≤ sizeLine := by
      have : (n : Int).toNat = n := by omega
      rw [this]
      exact Nat.le_trans hz line_big
    simp only [decide_eq_false_iff_not]
    omega
  · rw [if_neg hn1]
    split
    · rename_i hb
      have hb : (n : Int) = 1 ∨ z.length = 0 := by simpa using hb
      refine ⟨.str z, H, I, ⟨t, rfl⟩, q z ?_⟩
      rcases hb with hb | hb
      · have : n = 1 := by omega
        subst this
        simp
      · have hl : z.cps.toList = [] := by
          have : z.cps.toList.length = 0 := by simpa [Str.length] using hb
          exact List.length_eq_zero_iff.mp this
        rw [hl]
        simp
    · have en : (n : Int).toNat = n := by omega
      rw [en]
      have ec : (⟨(List.replicate n z.cps).foldl (· ++ ·) #[]⟩ : Str).cps.toList = (List.replicate n z.cps.toList).flatten := by
        show ((List.replicate n z.cps).foldl (· ++ ·) #[]).toList = _
        rw [fold_flat, List.map_replicate]
        simp
      refine ⟨?_, .str _, H, I.tok _, ⟨_, rfl⟩, q _ ec⟩
      have : (⟨(List.replicate n z.cps).foldl (· ++ ·) #[]⟩ : Str).length = z.length * n := by
        show ((List.replicate n z.cps).foldl (· ++ ·) #[]).size = z.cps.size * n
        rw [← Array.length_toList, fold_flat, List.map_replicate]
        simp [Nat.mul_comm]
      rw [this]
      exact Nat.le_trans hz line_big
/-! ### d.get(k), d a written dict that has k -/
def tKGet1 (K : PySem.W.Frag) (w : World) (td ty : TE) : TE := fun σ H Q => td σ H fun x H1 => ∃ p, x = .ref p ∧ (p == sysModules) = false ∧ (∃ z0 v0, KDct K w p z0 v0) ∧ ty σ H1 fun y H2 => ∃ (z : Str) (v : V), y = .str z ∧ KDct K w p z v ∧ Q v H2
theorem pe_kget1 {X : Cx} {o e : Expr} {apos cpos : Pos} {td ty : TE} (ho : PE X o td) (he : PE X e ty) (m : M1 X o "get" apos e cpos) : PE X (.Call (.Attribute o "get" apos) [e] [] cpos) (tKGet1 X.K X.w td ty) := by
  refine ⟨fun pins s σ H Q I h => ?_⟩
  refine wpAny_Call_method m.base m.few m.line PySem.F.plainAttrs_dict PySem.F.slot_dict_get PySem.F.type_dict_get (thn (ho.run pins s σ H _ I h) fun u s1 ⟨x, H1, I1, rx, p, ex, np, ⟨z0, v0, es0, n0, u0, hl0, hk0, e0, _⟩, q1⟩ => ?_)
  subst ex
  cases (show u = Value.ref p from rx)
  have hm0 := PySem.W.mapOf_K (prog := X.prog) (w := X.w) I1.kIn hl0 hk0
  refine ⟨hm0.typeIs, fun b q => ?_, ?_⟩
  · cases q
    exact ⟨_, I1.kIn _ _ hl0, rfl⟩
  rw [m.trees]
  refine Calls.callWith_builtin rfl (Calls.evalArgs_plain (Calls.spliced_cons (thn (he.run pins s1 σ H1 _ I1 q1) fun iv s2 ⟨y, H2, I2, ry, z, v, ey, kd, q2⟩ => Calls.spliced_nil ?_)))
  subst ey
  obtain ⟨es, n, u1, hl, hk, e1, ru⟩ := kd
  obtain ⟨t, rfl⟩ := (show ∃ t, iv = Value.str z t from ry)
  have hm := PySem.W.mapOf_K (prog := X.prog) (w := X.w) I2.kIn hl hk
  have hf := PySem.W.find_K hl e1
  refine call_meetsIn PySem.F.slot_dict_get hm.typeIs PySem.F.entry_dict_get (PySem.F.args_dict_get_2 _ _) (meets_dict_get (strKind X.prog X.w) p (strKind_is X.prog X.w z t) np) ⟨_, hm, ?_⟩
  rw [hf]
  exact ⟨v, H2, I2.tok _, ru, q2⟩
/-! ### a dict comprehension over any walk -/
theorem dc_it {J : It} {n : Nat} {G : Hp → Prop} {Y : Nat → Hp → V → Hp → Prop} (wk : Walk J n G Y) {g : TG} {tt : TT} {tk tv : TE} {vs : List Nat} {σ : L2.St} {H1 : Hp} {D : Addr} {Qd : Hp → Prop} (Pv : Nat → Hp → Prop) (h0 : Pv 0 (upd H1 D (.dK []))) (hG : ∀ i H, i ≤ n → Pv i H → G H)
    (hs : ∀ i x H H', i < n → Pv i H → Y i H x H' → g x (wipe σ vs) H' fun σ2 H2 => wipe σ2 vs = wipe σ vs ∧ tt σ2 H2 fun b H3 =>
      if b = true then tk σ2 H3 fun y H4 => tv σ2 H4 fun z H5 => ∃ kvs k, y = kV k ∧ H5 D = some (.dK kvs) ∧ kvs.length < sizeLine ∧ Pv (i + 1) (upd H5 D (.dK (putK kvs k z))) else Pv (i + 1) H3) (hd : ∀ H, Pv n H → Qd H) :
    ∃ W : Nat → Nat → Hp → Prop, (∃ m, W 0 m (upd H1 D (.dK []))) ∧ ∀ i m H, W i m H →
      (J.stop i H ∧ Qd H) ∨ (J.go i H ∧ ∃ Nx : Hp → Prop, (∀ H', Nx H' → ∃ m', m' < m ∧ W (i + 1) m' H') ∧ ∀ x H', J.yld i H x H' → g x (wipe σ vs) H' fun σ2 H2 => wipe σ2 vs = wipe σ vs ∧ tt σ2 H2 fun b H3 =>
        if b = true then tk σ2 H3 fun y H4 => tv σ2 H4 fun z H5 => ∃ kvs k, y = kV k ∧ H5 D = some (.dK kvs) ∧ kvs.length < sizeLine ∧ Nx (upd H5 D (.dK (putK kvs k z))) else Nx H3) := by
  refine ⟨fun i m H => m + i = n ∧ Pv i H, ⟨n, by omega, h0⟩, ?_⟩
  rintro i m H ⟨em, p⟩
  have hi : i ≤ n := by omega
  have g0 := hG i H hi p
  rcases Nat.lt_or_ge i n with lt | ge
  · exact .inr ⟨wk.goes i H lt g0, Pv (i + 1), fun H' p' => ⟨n - (i + 1), by omega, by omega, p'⟩, fun x H' y => hs i x H H' lt p (wk.yields i H x H' lt g0 y)⟩
  · have ei : i = n := by omega
    subst ei
    exact .inl ⟨wk.stops H g0, hd H p⟩
end OwnR

set_option Elab.async false
set_option linter.all false
set_option maxRecDepth 100000
set_option maxHeartbeats 1000000
namespace Sl
open PySem PySem.Spec L2 OwnR LamX
/-- a section: whether it is wide, its length -/
abbrev Sec := Bool × Nat
def kindS (b : Bool) : Str := if b then "wide" else "narrow"
def letterC (b : Bool) : Nat := if b then 119 else 110
def secV (s : Sec) : List V := [.str (kindS s.1), .int (s.2 : Nat)]
def SecsAt (H : Hp) (a : Addr) (secs : List Sec) : Prop := ∃ ts : List Addr, H a = some (.tup (ts.map V.ref)) ∧ ts.length = secs.length ∧ ∀ (i : Nat) (t : Addr) (s : Sec), ts[i]? = some t → secs[i]? = some s → H t = some (.tup (secV s))
theorem SecsAt.ext {H H' : Hp} {a : Addr} {secs : List Sec} (h : SecsAt H a secs) (e : ExtN H H') : SecsAt H' a secs := by
  obtain ⟨ts, h1, h2, h3⟩ := h
  exact ⟨ts, ExtN.tup e h1, h2, fun i t c e1 e2 => ExtN.tup e (h3 i t c e1 e2)⟩
structure SecsOk (secs : List Sec) : Prop where
  ne : secs ≠ []
  few : secs.length ≤ 12
  len : ∀ s ∈ secs, 1 ≤ s.2 ∧ s.2 ≤ 99
section
variable {P : Program} {w : World} {K : PySem.W.Frag} {mg : Str → Option Value} {base : Heap}
def spIsSection : Sp := fun vs H Q _ => ∃ (t : Addr) (s : Sec), vs = [.ref t] ∧ H t = some (.tup (secV s)) ∧ 1 ≤ s.2 ∧ s.2 ≤ 99 ∧ ∀ H', Same H H' → Q (.bl true) H'
theorem scIsSection : FnScope ["value", "kind", "length"] ["value"] (defScope sIsSection) := ⟨rfl, rfl, rfl, by decide +kernel, rfl, by decide +kernel, by decide +kernel⟩
theorem ok_isSection {f fB : Addr} {fd dB : FuncData} (F : Fb K mg "_is_section" sIsSection ["value"] f fd) (M : Mg mg) (BB : Fb K mg "is_number" sIsNumber ["value", "least", "most"] fB dB)
    (GB : FnOk P w K mg base CX0 1 fB dB ["value", "least", "most"] spIsNumber) : FnOk P w K mg base CX0 2 f fd ["value"] spIsSection := by
  obtain ⟨t1, M1⟩ := M.longestSection
  refine F.fn.ok scIsSection (fun vs H Q E h => ?_) (fun cdv A outer s H vs Q E hr h => ?_)
  · obtain ⟨t, c, rfl, _⟩ := h
    rfl
  · obtain ⟨t, c, rfl, ht, c1, c2, k⟩ := h
    have nd := scIsSection.nd
    refine ⟨_, pss_cons (ps_if (PW.pt (pw_or (pt_not (pt_val (pe_callB call_isi (by rfl) M.isinstance boot_isinstance (pa_cons (pv 0) (pa_cons (pe_bltn (v := .ty "tuple") (by rfl) M.tuple boot_tTuple rfl) pa_nil)))))
        (pw_or1 (pt_cmpR op_ne (pe_callB call_len_seq (by rfl) M.len boot_len (pa_cons (pv 0) pa_nil)) pe_int (nomark _))))) (pss_one (ps_ret pe_bl)) pss_nil)
      (pss_cons (ps_asg (pv 0) (pg_tup (by rfl) (pgs_cons (pg_name (i := 1) nd rfl (.inl rfl)) (pgs_cons (pg_name (i := 2) nd rfl (.inl rfl)) pgs_nil))))
      (pss_one (ps_ret (pe_and (pe_cmpR op_in_seq (pv 1) (pe_tup (pa_cons pe_str (pa_cons pe_str pa_nil))) (by rfl))
          (pe_one (pe_call GB hr (by rfl) BB.at_ BB.fn.kp BB.bd .nil pass0 (pa_cons (pv 2) (pa_cons pe_int (pa_cons (pe_glob (v := .int 99) (by rfl) M1 ⟨_, rfl⟩) pa_nil))))))))), ?_⟩
    refine ⟨_, rfl, _, _, _, _, true, rfl, .ty _, .base (.tup ht), kit_ty (by decide +kernel), true, rfl, iteF ?_⟩
    refine ⟨_, rfl, t, _, rfl, .inr (SqT.of ht), rfl, false, rfl, iteF ?_⟩
    refine ⟨_, rfl, t, secV c, rfl, SqT.of ht, rfl, _, _, rfl, _, _, rfl, rfl, ?_⟩
    refine ⟨_, rfl, by show 2 ≤ sizeLine; decide, fun p hp => ?_⟩
    refine ⟨p, _, rfl, .inr (SqT.of upd_same), rfl, rfl, true, ?_, iteT ?_⟩
    · show V.bl (inV (.str (kindS c.1)) _) = V.bl true
      cases c.1 <;> rfl
    refine ⟨_, rfl, (c.2 : Nat), 1, 99, rfl, ?_⟩
    rw [decide_eq_true (by omega : (1 : Int) ≤ (c.2 : Nat)), decide_eq_true (by omega : ((c.2 : Nat) : Int) ≤ 99)]
    exact k _ fun b o e => by rw [upd_ne (ne_of_none e hp)]; exact e
end
end Sl

set_option Elab.async false
set_option linter.all false
set_option maxRecDepth 100000
set_option maxHeartbeats 1000000
namespace Sl
open PySem PySem.Spec L2 OwnR LamX
def unitsL (secs : List Sec) : List Nat := secs.flatMap fun s => List.replicate s.2 (letterC s.1)
theorem unitsL_len : ∀ secs : List Sec, (unitsL secs).length = (secs.map (·.2)).sum
  | [] => rfl
  | s :: r => by
    have := unitsL_len r
    simp [unitsL] at this ⊢
theorem unitsL_snoc (secs : List Sec) (s : Sec) : unitsL (secs ++ [s]) = unitsL secs ++ List.replicate s.2 (letterC s.1) := by simp [unitsL]
theorem sum_le {secs : List Sec} (h : ∀ s ∈ secs, s.2 ≤ 99) : (secs.map (·.2)).sum ≤ 99 * secs.length := by
  induction secs with
  | nil => simp
  | cons s r ih =>
    have h1 := h s List.mem_cons_self
    have h2 := ih fun z hz => h z (List.mem_cons_of_mem _ hz)
    rw [List.map_cons, List.sum_cons, List.length_cons]
    omega
theorem ksu : ¬ (("_sections" : Str) = "_units") := by decide +kernel
/-- a Road's attributes -/
def rf (t : Addr) (u : Str) : List (Str × V) := putF "_units" (.str u) (putF "_sections" (.ref t) [])
theorem rf_eq (t : Addr) (u : Str) : rf t u = ([("_sections", V.ref t), ("_units", V.str u)] : List (Str × V)) := by
  show (if ("_sections" : Str) = "_units" then [(("_sections" : Str), V.str u)] else (("_sections" : Str), V.ref t) :: putF "_units" (V.str u) []) = ([("_sections", V.ref t), ("_units", V.str u)] : List (Str × V))
  rw [if_neg ksu]
  rfl
theorem rf_sections (t : Addr) (u : Str) : (rf t u).lookup ("_sections" : Str) = some (.ref t) := by
  unfold rf
  rw [lookup_putF, if_neg ksu, lookup_putF, if_pos rfl]
theorem rf_units (t : Addr) (u : Str) : (rf t u).lookup ("_units" : Str) = some (.str u) := by
  unfold rf
  rw [lookup_putF, if_pos rfl]
def RoadAt (C : Addr) (H : Hp) (p : Addr) (secs : List Sec) : Prop := ∃ dx t u, H p = some (.ins C dx (rf t u)) ∧ SecsAt H t secs ∧ u.cps.toList = unitsL secs
theorem RoadAt.ext {C : Addr} {H H' : Hp} {a : Addr} {secs : List Sec} (h : RoadAt C H a secs) (e : ExtN H H') : RoadAt C H' a secs := by
  obtain ⟨dx, t, u, h1, h2, h3⟩ := h
  exact ⟨dx, t, u, ExtN.ins e h1, h2.ext e, h3⟩
/-- what the program asks of the class Road and of the tables of letters -/
structure RoadT (K : PySem.W.Frag) (w : World) (mg : Str → Option Value) (C lp kp : Addr) : Prop where
  cl : Cls K C
  nS : NoAttr K C "_sections"
  nU : NoAttr K C "_units"
  mgC : mg "Road" = some (.ref C)
  mgL : mg "LETTERS" = some (.ref lp)
  mgK : mg "KINDS" = some (.ref kp)
  lN : KDct K w lp "narrow" (.str "n")
  lW : KDct K w lp "wide" (.str "w")
  kN : KDct K w kp "n" (.str "narrow")
  kW : KDct K w kp "w" (.str "wide")
  kM : (kp == sysModules) = false
def letterS (b : Bool) : Str := if b then "w" else "n"
theorem letter_toList (b : Bool) : (letterS b).cps.toList = [letterC b] := by cases b <;> decide +kernel
theorem joinL_nil : ∀ l : List (List Nat), TL.joinL [] l = l.flatten
  | [] => rfl
  | [p] => by simp [TL.joinL]
  | p :: q :: r => by
    have := joinL_nil (q :: r)
    simp [TL.joinL] at this ⊢
    exact this
theorem join_empty (ys : List Str) : (Txt.join ("" : Str) ys).cps.toList = (ys.map fun y => y.cps.toList).flatten := by
  have h := TL.tl_join ("" : Str) ys
  rw [TL.join_eq]
  have e : TL.tl ("" : Str) = [] := by decide +kernel
  rw [e, joinL_nil] at h
  exact h
section
variable {P : Program} {w : World} {K : PySem.W.Frag} {mg : Str → Option Value} {base : Heap}
theorem str_add_toList (i j : Str) : (i ++ j).cps.toList = i.cps.toList ++ j.cps.toList := by
  show (i.cps ++ j.cps).toList = _
  simp
theorem str_len_toList (i : Str) : i.length = i.cps.toList.length := by simp [Str.length]
theorem ip_addS {X : Cx} : PIp X .Add (fun x y H Q => ∃ i j, x = .str i ∧ y = .str j ∧ i.length + j.length ≤ sizeLine ∧ Q (.str (i ++ j)) H) := fun pins s σ H x y v u Q I rx ry h => iop_add_str pins s σ H x y v u Q I rx ry h
def spUnitsOf : Sp := fun vs H Q _ => ∃ (t : Addr) (secs : List Sec), vs = [.ref t] ∧ SecsAt H t secs ∧ SecsOk secs ∧ ∀ H' u, Same H H' → u.cps.toList = unitsL secs → Q (.str u) H'
def nUnitsOf : List Str := ["sections", "units", "kind", "length"]
theorem scUnitsOf : FnScope nUnitsOf ["sections"] (defScope sUnitsOf) := ⟨rfl, rfl, rfl, by decide +kernel, rfl, by decide +kernel, by decide +kernel⟩
theorem ok_unitsOf {f C lp kp : Addr} {fd : FuncData} (F : Fb K mg "_units_of" sUnitsOf ["sections"] f fd) (R : RoadT K w mg C lp kp) : FnOk P w K mg base CX0 1 f fd ["sections"] spUnitsOf := by
  refine F.fn.ok scUnitsOf (fun vs H Q E h => ?_) (fun cdv A outer s H vs Q E hr h => ?_)
  · obtain ⟨t, secs, rfl, _⟩ := h
    rfl
  · obtain ⟨t, secs, rfl, ⟨ts, ht, hlen, hsec⟩, S, k⟩ := h
    have nd := scUnitsOf.nd
    refine ⟨_, pss_cons (ps_set (i := 1) nd rfl (.inl rfl) pe_str)
      (pss_cons (ps_for PassesOwn.never rfl (pi_tup (pv 0)) (pg_tup rfl (pgs_cons (pg_name (i := 2) nd rfl (.inl rfl)) (pgs_cons (pg_name (i := 3) nd rfl (.inl rfl)) pgs_nil)))
        (pss_one (ps_aug (i := 1) nd rfl (.inl rfl) (pe_op op_repS (pe_ix (r := rIxD K w) ix_kdict (pe_glob (v := .ref lp) (by rfl) R.mgL rfl) (pv 2) (fun _ _ => rfl)) (pv 3)) ip_addS)))
      (pss_one (ps_ret (pv 1)))), ?_⟩
    have hts : (ts.map V.ref).length = secs.length := by rw [List.length_map, hlen]
    refine ⟨_, rfl, t, rfl, ⟨_, SqT.of ht⟩, for_it walk_tup (fun i σ H1 => ∃ u v2 v3, σ = [some (.ref t), some (.str u), v2, v3] ∧ Same H H1 ∧ u.cps.toList = unitsL (secs.take i))
      ⟨("" : Str), none, none, rfl, Same.refl H, by rw [List.take_zero]; decide +kernel⟩ (fun i σ H1 _ ⟨_, _, _, _, s1, _⟩ => SqT.of (s1 _ _ ht)) ?_ ?_⟩
    · rintro i y σ H1 H2 hi ⟨u, v2, v3, rfl, s1, eu⟩ ⟨e, hy⟩
      subst e
      have hic : i < secs.length := by rw [hts] at hi; exact hi
      obtain ⟨tt, htt, rfl⟩ : ∃ t, ts[i]? = some t ∧ y = V.ref t := by
        rw [List.getElem?_map] at hy
        obtain ⟨t, z1, z2⟩ := Option.map_eq_some_iff.mp hy
        exact ⟨t, z1, z2.symm⟩
      have hc : secs[i]? = some secs[i] := List.getElem?_eq_getElem hic
      have hct := s1 _ _ (hsec i tt _ htt hc)
      have c0 := S.len _ (List.getElem_mem hic)
      have hlk : KDct K w lp (kindS secs[i].1) (.str (letterS secs[i].1)) := by
        cases secs[i].1
        · exact R.lN
        · exact R.lW
      have hl1 : (letterS secs[i].1).length = 1 := by cases secs[i].1 <;> decide +kernel
      refine ⟨tt, _, rfl, SqT.of hct, rfl, _, _, rfl, _, _, rfl, rfl, ?_⟩
      refine ⟨_, rfl, _, rfl, lp, _, _, rfl, rfl, hlk, _, rfl, letterS secs[i].1, secs[i].2, rfl, rfl, c0.1, by omega, by rw [hl1]; omega, fun u2 hu2 => ?_⟩
      rw [letter_toList] at hu2
      have e2 : u2.cps.toList = List.replicate secs[i].2 (letterC secs[i].1) := by rw [hu2]; simp
      have hsz : u.length + u2.length ≤ sizeLine := by
        rw [str_len_toList, str_len_toList, eu, e2, List.length_replicate, unitsL_len]
        have h1 := sum_le (secs := secs.take i) fun s hs => (S.len s (List.mem_of_mem_take hs)).2
        have h2 : (secs.take i).length ≤ secs.length := by rw [List.length_take]; omega
        have h3 := S.few
        have h4 := c0.2
        exact Nat.le_trans (by omega : _ ≤ 2000) (by decide)
      refine ⟨u, u2, rfl, rfl, hsz, ?_⟩
      refine ⟨u ++ u2, _, _, rfl, s1, ?_⟩
      rw [str_add_toList, eu, e2, tk1 hc, unitsL_snoc]
    · rintro σ H1 ⟨u, v2, v3, rfl, s1, eu⟩
      refine ⟨_, rfl, ?_⟩
      have e9 : secs.take (ts.map V.ref).length = secs := by rw [hts, List.take_length]
      rw [e9] at eu
      exact k H1 u s1 eu
def spRInit0 (C : Addr) : Sp := fun vs H Q _ => ∃ (x dx t : Addr) (secs : List Sec), vs = [.ref x, .ref t] ∧ H x = some (.ins C dx []) ∧ SecsAt H t secs ∧ SecsOk secs ∧
  ∀ H' u, (∀ b o, H b = some o → b ≠ x → H' b = some o) → H' x = some (.ins C dx (rf t u)) → u.cps.toList = unitsL secs → Q .non H'
def nRInit : List Str := ["self", "sections", "index", "section"]
theorem scRInit : FnScope nRInit ["self", "sections"] (defScope sRInit) := ⟨rfl, rfl, rfl, by decide +kernel, rfl, by decide +kernel, by decide +kernel⟩
theorem ok_rInit {f fB fU C lp kp : Addr} {fd dB dU : FuncData} (F : Fun K "__init__" "Road.__init__" sRInit f fd) (M : Mg mg) (R : RoadT K w mg C lp kp) (BB : Fb K mg "_is_section" sIsSection ["value"] fB dB)
    (GB : FnOk P w K mg base CX0 2 fB dB ["value"] spIsSection) (BU : Fb K mg "_units_of" sUnitsOf ["sections"] fU dU) (GU : FnOk P w K mg base CX0 1 fU dU ["sections"] spUnitsOf) :
    FnR P w K mg base CX0 3 f (fun vs H Q E => ∃ ws rest, vs = ws ++ rest ∧ ws.length = (["self"] : List Str).length ∧ rest.length ≤ sizeLine ∧ ∀ p, H p = Option.none → spRInit0 C (ws ++ [V.ref p]) (upd H p (.tup rest)) Q E) := by
  obtain ⟨t1, M1⟩ := M.mostSections
  obtain ⟨oc, od, kV, doc, pm, an, cdv, ct, osl, rfl, lk, hcd⟩ := F.ex
  refine StX.fn_star lk hcd scRInit StX.cxUp_none (StX.bind_star1 (p1 := "self") (pv := "sections") (B := fun xs => bindArgs (PySem.W.fnOf "__init__" "Road.__init__" (defArgs sRInit) (defBody sRInit) (defScope sRInit) .none kV doc pm an cdv ct) ⟨xs, []⟩) (fun _ => rfl) (fun _ _ _ => rfl)) fun A outer s H vs Q E hr h => ?_
  obtain ⟨x, dx, t, secs, rfl, hx, ⟨ts, ht, hlen, hsec⟩, S, k⟩ := h
  have nd := scRInit.nd
  have hr1 : Room 1 (A.deeper (PyProof.Rows.envOfC "Road.__init__" (defScope sRInit) s.heap.objs.size f cdv)) := hr.mono (by decide)
  refine ⟨_, PSs.nox (pss_cons (ps_if (pt_not (pt_truth (pv 1) (by intro _; rfl))) (pss_one ps_never) pss_nil)
    (pss_cons (ps_for PassesOwn.never rfl (pi_enumT (by rfl) M.enumerate (pa_cons (pv 1) pa_nil)) (pg_tup rfl (pgs_cons (pg_name (i := 2) nd rfl (.inl rfl)) (pgs_cons (pg_name (i := 3) nd rfl (.inl rfl)) pgs_nil)))
      (pss_one (ps_if (PW.pt (pw_or (pt_cmpR op_eq (pv 2) (pe_glob (v := .int 12) (by rfl) M1 ⟨_, rfl⟩) (nomark _)) (pw_or1 (pt_not (pt_val (pe_call GB hr (by rfl) BB.at_ BB.fn.kp BB.bd .nil pass0 (pa_cons (pv 3) pa_nil))))))) (pss_one ps_never) pss_nil)))
    (pss_cons (ps_fld (pv 0) (pv 1) rfl)
    (pss_one (ps_fld (pv 0) (pe_call GU hr1 (by rfl) BU.at_ BU.fn.kp BU.bd .nil pass0 (pa_cons (pv 1) pa_nil)) rfl))))), ?_⟩
  have hts : (ts.map V.ref).length = secs.length := by rw [List.length_map, hlen]
  have hne : (ts.map V.ref).isEmpty = false := by
    cases ts with
    | nil =>
      exfalso
      exact S.ne (List.length_eq_zero_iff.mp hlen.symm)
    | cons _ _ => rfl
  refine ⟨_, rfl, true, .inr (.inl ⟨_, SqT.of ht, by rw [hne]; rfl⟩), iteF ?_⟩
  refine ⟨_, rfl, t, ts.map V.ref, rfl, SqT.of ht, for_it walk_enumT
    (fun i σ H1 => ∃ v2 v3, σ = [some (.ref x), some (.ref t), v2, v3] ∧ Same H H1)
    ⟨none, none, rfl, Same.refl H⟩ (fun i σ H1 _ ⟨_, _, _, s1⟩ => SqT.of (s1 _ _ ht)) ?_ ?_⟩
  · rintro i y σ H1 H2 hi ⟨v2, v3, rfl, s1⟩ ⟨T, x1, x2, rfl, hT, rfl, e1, e2⟩
    cases e1
    have hic : i < secs.length := by rw [hts] at hi; exact hi
    have e2 : (ts.map V.ref)[i]? = some x2 := e2
    obtain ⟨tt, htt, rfl⟩ : ∃ t, ts[i]? = some t ∧ x2 = V.ref t := by
      rw [List.getElem?_map] at e2
      obtain ⟨t, z1, z2⟩ := Option.map_eq_some_iff.mp e2
      exact ⟨t, z1, z2.symm⟩
    have hc : secs[i]? = some secs[i] := List.getElem?_eq_getElem hic
    have hct := hsec i tt _ htt hc
    have sT : Same H1 (upd H1 T (.tup [.int (i : Nat), .ref tt])) := fun b o e => by rw [upd_ne (ne_of_none e hT)]; exact e
    have c0 := S.len _ (List.getElem_mem hic)
    refine ⟨T, _, rfl, SqT.of upd_same, rfl, _, _, rfl, _, _, rfl, rfl, ?_⟩
    refine ⟨_, rfl, rfl, _, rfl, ?_⟩
    have ne12 : ¬ (V.int (i : Nat) = V.int 12) := fun z => by
      injection z with z
      have := S.few
      omega
    rw [decide_eq_false ne12]
    refine iteF ?_
    refine ⟨_, rfl, tt, secs[i], rfl, sT _ _ (s1 _ _ hct), c0.1, c0.2, fun H3 s3 => ⟨true, rfl, iteF ?_⟩⟩
    exact ⟨_, _, rfl, s1.trans (sT.trans s3)⟩
  · rintro σ H1 ⟨v2, v3, rfl, s1⟩
    have hx1 := s1 _ _ hx
    have ht1 := s1 _ _ ht
    have nxt : t ≠ x := ne_of ht1 hx1 (by intro z; cases z)
    refine ⟨_, rfl, _, rfl, x, C, dx, _, rfl, hx1, R.cl, R.nS, (by show 0 < 1000; decide), ?_⟩
    have sx : ∀ b o, H b = some o → b ≠ x → upd H1 x (.ins C dx (putF "_sections" (.ref t) [])) b = some o := fun b o e n => by rw [upd_ne n]; exact s1 b o e
    have hs2 : SecsAt (upd H1 x (.ins C dx (putF "_sections" (.ref t) []))) t secs := by
      refine ⟨ts, by rw [upd_ne nxt]; exact ht1, hlen, fun i a s e1 e2 => ?_⟩
      have h1 := s1 _ _ (hsec i a s e1 e2)
      rw [upd_ne (ne_of h1 hx1 (by intro z; cases z))]
      exact h1
    refine ⟨_, rfl, t, secs, rfl, hs2, S, fun H2 u k2 eU => ?_⟩
    have hx2 := k2 x _ upd_same
    refine ⟨_, rfl, x, C, dx, _, rfl, hx2, R.cl, R.nU, (by show 1 < 1000; decide), ?_⟩
    exact k _ _ (fun b o e n => by rw [upd_ne n]; exact k2 b o (sx b o e n)) upd_same eU
end
end Sl

/-! Runs of units: the longest runs of a list of Booleans. -/
namespace Sl
def rstep (acc : List (Bool × Nat)) (b : Bool) : List (Bool × Nat) := match acc.getLast? with
  | none => [(b, 1)]
  | some (k, n) => if k = b then acc.dropLast ++ [(k, n + 1)] else acc ++ [(b, 1)]
def runsOf (l : List Bool) : List (Bool × Nat) := l.foldl rstep []
theorem runsOf_snoc (l : List Bool) (b : Bool) : runsOf (l ++ [b]) = rstep (runsOf l) b := by
  unfold runsOf
  rw [List.foldl_append]
  rfl
theorem rstep_len (acc : List (Bool × Nat)) (b : Bool) : (rstep acc b).length ≤ acc.length + 1 := by
  unfold rstep
  split
  · simp
  · split
    · simp [List.length_dropLast]
    · simp
theorem runs_fold_len : ∀ (l : List Bool) (acc : List (Bool × Nat)), (l.foldl rstep acc).length ≤ acc.length + l.length
  | [], _ => by simp
  | b :: r, acc => by
    have h1 := runs_fold_len r (rstep acc b)
    have h2 := rstep_len acc b
    rw [List.foldl_cons, List.length_cons]
    omega
theorem runsOf_len (l : List Bool) : (runsOf l).length ≤ l.length := by
  have := runs_fold_len l []
  simpa [runsOf] using this
end Sl

set_option Elab.async false
set_option linter.all false
set_option maxRecDepth 100000
set_option maxHeartbeats 1000000
namespace Sl
open PySem PySem.Spec L2 OwnR LamX
section
variable {P : Program} {w : World} {K : PySem.W.Frag} {mg : Str → Option Value} {base : Heap}
/-! ### the property sections, len(road) -/
theorem scRSections : FnScope ["self"] ["self"] (defScope sRSections) := ⟨rfl, rfl, rfl, by decide +kernel, rfl, by decide +kernel, by decide +kernel⟩
theorem ok_rSections {f C lp kp : Addr} {fd : FuncData} (F : Fun K "sections" "Road.sections" sRSections f fd) (R : RoadT K w mg C lp kp) : FnOk P w K mg base CX0 1 f fd ["self"] (getSp C "_sections") := by
  obtain ⟨oc, od, kV, doc, pm, an, cdv, ct, osl, rfl, lk, hcd⟩ := F.ex
  exact fn_getter lk hcd scRSections rfl rfl R.cl R.nS
def spRLen (C : Addr) : Sp := fun vs H Q _ => ∃ (p : Addr) (secs : List Sec), vs = [.ref p] ∧ RoadAt C H p secs ∧ SecsOk secs ∧ Q (.int ((unitsL secs).length : Nat)) H
theorem scRLen : FnScope ["self"] ["self"] (defScope sRLen) := ⟨rfl, rfl, rfl, by decide +kernel, rfl, by decide +kernel, by decide +kernel⟩
theorem ok_rLen {f C lp kp : Addr} {fd : FuncData} (F : Fun K "__len__" "Road.__len__" sRLen f fd) (M : Mg mg) (R : RoadT K w mg C lp kp) : FnOk P w K mg base CX0 1 f fd ["self"] (spRLen C) := by
  refine F.ok scRLen (fun vs H Q E h => ?_) (fun cdv A outer s H vs Q E hr h => ?_)
  · obtain ⟨p, secs, rfl, _⟩ := h
    rfl
  · obtain ⟨p, secs, rfl, ⟨dx, t, u, hp, hs, hu⟩, S, k⟩ := h
    refine ⟨_, pss_one (ps_ret (pe_callB call_len_str (by rfl) M.len boot_len (pa_cons (pe_fld (pv 0) rfl) pa_nil))), ?_⟩
    have el : u.length = (unitsL secs).length := by rw [← hu]; simp [Str.length]
    have hz : u.length ≤ sizeLine := by
      rw [el, unitsL_len]
      have := sum_le fun s hs => (S.len s hs).2
      have := S.few
      exact Nat.le_trans (by omega : (secs.map (·.2)).sum ≤ 2000) (by decide)
    refine ⟨_, rfl, p, C, dx, _, _, rfl, hp, R.cl, R.nU, rf_units _ _, u, rfl, hz, ?_⟩
    rw [el]
    exact k
/-! ### _runs -/
def RunsAt (H : Hp) (a : Addr) (secs : List Sec) : Prop := ∃ ts : List Addr, H a = some (.lst (ts.map V.ref)) ∧ ts.length = secs.length ∧ ∀ (i : Nat) (t : Addr) (s : Sec), ts[i]? = some t → secs[i]? = some s → H t = some (.tup (secV s))
def spRuns : Sp := fun vs H Q _ => ∃ (u : Str) (bs : List Bool), vs = [.str u] ∧ u.cps.toList = bs.map letterC ∧ bs.length ≤ 1000 ∧ ∀ H' p, Same H H' → H p = none → RunsAt H' p (runsOf bs) → Q (.ref p) H'
def nRuns : List Str := ["units", "runs", "letter", "length"]
theorem scRuns : FnScope nRuns ["units"] (defScope sRuns) := ⟨rfl, rfl, rfl, by decide +kernel, rfl, by decide +kernel, by decide +kernel⟩
theorem letterS_eq (b : Bool) : (⟨#[letterC b]⟩ : Str) = letterS b := by cases b <;> decide +kernel
theorem letterS_inj (a b : Bool) : decide (V.str (letterS a) = V.str (letterS b)) = decide (a = b) := by cases a <;> cases b <;> decide +kernel
theorem snoc_of {α : Type} {l : List α} {m : Nat} (h : l.length = m + 1) : ∃ r x, l = r ++ [x] ∧ r.length = m := by
  have hne : l ≠ [] := fun z => by rw [z] at h; simp at h
  refine ⟨l.dropLast, l.getLast hne, (List.dropLast_concat_getLast hne).symm, ?_⟩
  rw [List.length_dropLast, h]
  rfl
structure RunsI (H H1 : Hp) (L : Addr) (acc : List Sec) (as : List Addr) : Prop where
  at_ : H1 L = some (.lst (as.map V.ref))
  len : as.length = acc.length
  nd : as.Nodup
  new : ∀ a ∈ as, H a = none ∧ a ≠ L
  it : ∀ (j : Nat) (a : Addr) (s : Sec), as[j]? = some a → acc[j]? = some s → H1 a = some (.lst [.str (letterS s.1), .int (s.2 : Nat)])
theorem RunsI.more {H H1 : Hp} {L : Addr} {acc : List Sec} {as : List Addr} (h : RunsI H H1 L acc as) (s1 : Same H H1) (hL : H L = none) {a : Addr} (ha : H1 a = none) (b : Bool) :
    RunsI H (upd (upd H1 a (.lst [.str (letterS b), .int 1])) L (.lst (as.map V.ref ++ [.ref a]))) L (acc ++ [(b, 1)]) (as ++ [a]) := by
  have naL : a ≠ L := fun z => by rw [z, h.at_] at ha; cases ha
  have nas : a ∉ as := fun z => by
    obtain ⟨j, hj⟩ := List.mem_iff_getElem?.mp z
    have hj2 : j < acc.length := by
      have := (List.getElem?_eq_some_iff.mp hj).1
      rw [← h.len]
      exact this
    have := h.it j a _ hj (List.getElem?_eq_getElem hj2)
    rw [ha] at this
    cases this
  refine ⟨by rw [upd_same, List.map_append]; rfl, by rw [List.length_append, List.length_append, h.len]; rfl, ?_, fun c hc => ?_, fun j c s e1 e2 => ?_⟩
  · rw [List.nodup_append]
    refine ⟨h.nd, by simp, fun x hx y hy => ?_⟩
    rw [List.mem_singleton.mp hy]
    exact fun z => nas (z ▸ hx)
  · rcases List.mem_append.mp hc with hc | hc
    · exact h.new c hc
    · rw [List.mem_singleton.mp hc]
      refine ⟨?_, naL⟩
      cases q : H a with
      | none => rfl
      | some o =>
        rw [s1 _ _ q] at ha
        cases ha
  · rcases Nat.lt_or_ge j as.length with lt | ge
    · rw [List.getElem?_append_left lt] at e1
      rw [List.getElem?_append_left (by rw [← h.len]; exact lt)] at e2
      have hc := List.mem_of_getElem? e1
      rw [upd_ne (h.new c hc).2, upd_ne (fun (z : c = a) => nas (by rw [← z]; exact hc))]
      exact h.it j c s e1 e2
    · rw [List.getElem?_append_right ge] at e1
      rw [List.getElem?_append_right (by rw [← h.len]; exact ge), ← h.len] at e2
      have e0 : j - as.length = 0 := by
        have := (List.getElem?_eq_some_iff.mp e1).1
        simp at this
        omega
      rw [e0] at e1 e2
      have e1 : a = c := by simpa using e1
      have e2 : (b, 1) = s := by simpa using e2
      subst e1 e2
      rw [upd_ne naL, upd_same]
      rfl
theorem RunsI.bump {H H1 : Hp} {L : Addr} {acc : List Sec} {as : List Addr} {k : Bool} {n : Nat} {a : Addr} (h : RunsI H H1 L (acc ++ [(k, n)]) (as ++ [a])) :
    RunsI H (upd H1 a (.lst [.str (letterS k), .int ((n : Nat) + 1)])) L (acc ++ [(k, n + 1)]) (as ++ [a]) := by
  have hl := h.len
  rw [List.length_append, List.length_append] at hl
  have hl : as.length = acc.length := by simpa using hl
  have na := h.new a (by simp)
  have nas : a ∉ as := fun z => by
    have := (List.nodup_append.mp h.nd).2.2 a z a (by simp)
    exact this rfl
  refine ⟨by rw [upd_ne na.2.symm]; exact h.at_, by simp [hl], h.nd, h.new, fun j c s e1 e2 => ?_⟩
  rcases Nat.lt_or_ge j as.length with lt | ge
  · rw [List.getElem?_append_left (by rw [← hl]; exact lt)] at e2
    have e1' := e1
    rw [List.getElem?_append_left lt] at e1'
    rw [upd_ne (fun (z : c = a) => nas (by rw [← z]; exact List.mem_of_getElem? e1'))]
    exact h.it j c s e1 (by rw [List.getElem?_append_left (by rw [← hl]; exact lt)]; exact e2)
  · rw [List.getElem?_append_right ge] at e1
    rw [List.getElem?_append_right (by rw [← hl]; exact ge), ← hl] at e2
    have e0 : j - as.length = 0 := by
      have := (List.getElem?_eq_some_iff.mp e1).1
      simp at this
      omega
    rw [e0] at e1 e2
    have e1 : a = c := by simpa using e1
    have e2 : (k, n + 1) = s := by simpa using e2
    subst e1 e2
    rw [upd_same]
    rfl
theorem ok_runs {f C lp kp : Addr} {fd : FuncData} (F : Fb K mg "_runs" sRuns ["units"] f fd) (R : RoadT K w mg C lp kp) : FnOk P w K mg base CX0 1 f fd ["units"] spRuns := by
  refine F.fn.ok scRuns (fun vs H Q E h => ?_) (fun cdv A outer s H vs Q E hr h => ?_)
  · obtain ⟨u, bs, rfl, _⟩ := h
    rfl
  · obtain ⟨u, bs, rfl, hu, hlen, k⟩ := h
    have nd := scRuns.nd
    refine ⟨_, pss_cons (ps_set (i := 1) nd rfl (.inl rfl) (pe_lst pa_nil))
      (pss_cons (ps_for PassesOwn.never rfl (pi_str (pv 0)) (pg_name (i := 2) nd rfl (.inl rfl))
        (pss_one (ps_if (PW.pt (pw_and (pt_truth (pv 1) (by intro _; rfl)) (pw_and1 (pt_cmpR op_eq (pe_ix ix_list (pe_ix ix_list (pv 1) (pe_un un_neg pe_int) (fun _ _ => rfl)) pe_int (fun _ _ => rfl)) (pv 2) (nomark _)))))
          (pss_one (ps_augS (pe_ix ix_list (pv 1) (pe_un un_neg pe_int) (fun _ _ => rfl)) pe_int pg_list pe_int ip_add set_list))
          (pss_one (ps_expr (pe_bm PySem.F.plainAttrs_list PySem.F.slot_list_append PySem.F.type_list_append mt_append (pv 1) (pa_cons (pe_lst (pa_cons (pv 2) (pa_cons pe_int pa_nil))) pa_nil)))))))
      (pss_one (ps_ret (pe_lc (own := [("letter", 2), ("length", 3)]) (g := gUnl K 2 (gCons (gName 2) (gCons (gName 3) gNil))) (tt := tYes) (te := tTup (tCons (tKGet1 K w (tC (.ref kp)) (tVar 2)) (tCons (tVar 3) tNil))) (by rfl) nd (pi_list (pv 1)) (blkOk_by (N := nRuns) (sc := defScope sRuns) (by decide +kernel))
        (fun _ _ _ _ _ => pg_unl rfl (pgs_cons (pg_name (i := 2) nd rfl (Or.inl rfl)) (pgs_cons (pg_name (i := 3) nd rfl (Or.inl rfl)) pgs_nil))) (fun _ _ _ _ _ => pts_nil)
        (fun _ _ _ _ _ => pe_tup (pa_cons (pe_kget1 (pe_glob (v := .ref kp) (by rfl) R.mgK rfl) (pv 2) ⟨rfl, rfl, rfl, rfl⟩) (pa_cons (pv 3) pa_nil))))))), ?_⟩
    refine ⟨Nat.zero_le _, fun L hL => ?_⟩
    have s0 : Same H (upd H L (.lst [])) := fun b o e => by rw [upd_ne (ne_of_none e hL)]; exact e
    have hsz : u.cps.size = bs.length := by
      have := congrArg List.length hu
      simpa using this
    refine ⟨_, rfl, u, rfl, for_it walk_str (fun i σ H1 => ∃ v2 as, σ = [some (.str u), some (.ref L), v2, none] ∧ Same H H1 ∧ RunsI H H1 L (runsOf (bs.take i)) as)
      ⟨none, [], rfl, s0, upd_same, rfl, by simp, fun a ha => by simp at ha, fun j a s e => by simp at e⟩ (fun _ _ _ _ _ => True.intro) ?_ ?_⟩
    · rintro i x σ H1 H2 hi ⟨v2, as, rfl, s1, I⟩ ⟨e, c, hc, ex⟩
      subst e
      have hib : i < bs.length := by rw [hsz] at hi; exact hi
      obtain ⟨b, hb⟩ : ∃ b, bs[i]? = some b := ⟨_, List.getElem?_eq_getElem hib⟩
      have ecb : c = letterC b := by
        have h1 : u.cps.toList[i]? = some c := by simpa using hc
        rw [hu, List.getElem?_map, hb] at h1
        exact (Option.some.inj h1).symm
      rw [ecb, letterS_eq] at ex
      subst ex
      rw [tk1 hb, runsOf_snoc]
      have hlen2 : (runsOf (bs.take i)).length ≤ 1000 := Nat.le_trans (runsOf_len _) (by rw [List.length_take]; omega)
      generalize runsOf (bs.take i) = acc at *
      cases hl : acc.getLast? with
      | none =>
        have ea : acc = [] := List.getLast?_eq_none_iff.mp hl
        subst ea
        have eas : as = [] := List.length_eq_zero_iff.mp I.len
        subst eas
        have er : rstep [] b = [(b, 1)] := rfl
        rw [er]
        have hat := I.at_
        refine ⟨_, rfl, false, .inl ⟨_, SqL.of hat, rfl⟩, iteF ?_⟩
        refine iteF ?_
        refine ⟨_, rfl, .inl ⟨rfl, _, SqL.of hat⟩, _, rfl, by show 2 ≤ sizeLine; decide, fun a ha => ?_⟩
        have naL : L ≠ a := ne_of_none hat ha
        refine ⟨L, _, .ref a, rfl, rfl, by rw [upd_ne naL]; exact hat, by show 0 < sizeLine; decide, ?_⟩
        exact ⟨_, [a], rfl, fun b' o e => by rw [upd_ne (ne_of_none e hL), upd_ne (ne_of_none (s1 _ _ e) ha)]; exact s1 _ _ e, I.more s1 hL ha b⟩
      | some r =>
        obtain ⟨k', n⟩ := r
        obtain ⟨acc', ea⟩ := List.getLast?_eq_some_iff.mp hl
        subst ea
        obtain ⟨as', a, eas, hl'⟩ := snoc_of (l := as) (m := acc'.length) (by rw [I.len]; simp)
        subst eas
        have hat := I.at_
        have hat2 : H2 L = some (.lst (as'.map V.ref ++ [V.ref a])) := by rw [hat, List.map_append]; rfl
        have ha := I.it acc'.length a (k', n) (by rw [← hl']; simp) (by simp)
        refine ⟨_, rfl, true, .inl ⟨_, SqL.of hat2, by simp⟩, iteT ?_⟩
        refine ⟨_, rfl, _, rfl, L, _, _, .ref a, rfl, rfl, SqL.of hat2, atI_last _ _, a, _, _, _, rfl, rfl, SqL.of ha, rfl, _, rfl, rfl, _, rfl, ?_⟩
        rw [letterS_inj]
        by_cases hk : k' = b
        · rw [decide_eq_true hk]
          refine iteT ?_
          have er : rstep (acc' ++ [(k', n)]) b = acc' ++ [(k', n + 1)] := by
            unfold rstep
            rw [hl]
            simp [hk]
          rw [er]
          refine ⟨_, rfl, _, rfl, L, _, _, .ref a, rfl, rfl, SqL.of hat2, atI_last _ _, a, _, _, _, rfl, rfl, SqL.of ha, rfl, _, _, rfl, rfl, a, _, _, 1, rfl, rfl, ha, rfl, ?_⟩
          have na := I.new a (by simp)
          exact ⟨_, _, rfl, fun b' o e => by rw [upd_ne (ne_of_none e na.1)]; exact s1 _ _ e, I.bump⟩
        · rw [decide_eq_false hk]
          refine iteF ?_
          have er : rstep (acc' ++ [(k', n)]) b = acc' ++ [(k', n)] ++ [(b, 1)] := by
            unfold rstep
            rw [hl]
            simp [hk]
          rw [er]
          refine ⟨_, rfl, .inl ⟨rfl, _, SqL.of hat⟩, _, rfl, by show 2 ≤ sizeLine; decide, fun a2 ha2 => ?_⟩
          have naL : L ≠ a2 := ne_of_none hat ha2
          refine ⟨L, _, .ref a2, rfl, rfl, by rw [upd_ne naL]; exact hat, ?_, ?_⟩
          · rw [List.length_map, I.len]
            exact small1000 hlen2
          · exact ⟨_, as' ++ [a] ++ [a2], rfl, fun b' o e => by rw [upd_ne (ne_of_none e hL), upd_ne (ne_of_none (s1 _ _ e) ha2)]; exact s1 _ _ e, I.more s1 hL ha2 b⟩
    · rintro σ H1 ⟨v2, as, rfl, s1, I⟩
      have e9 : bs.take u.cps.size = bs := by rw [hsz, List.take_length]
      rw [e9] at I
      have hlen2 := runsOf_len bs
      generalize runsOf bs = acc at *
      refine ⟨_, rfl, L, rfl, ⟨_, SqL.of I.at_⟩, fun D hD => ?_⟩
      have hL1 := I.at_
      have nDL : L ≠ D := ne_of_none hL1 hD
      have hlz : (as.map V.ref).length = acc.length := by rw [List.length_map, I.len]
      refine lc_it walk_list (fun i H2 => Same H1 H2 ∧ ∃ ts : List Addr, H2 D = some (.lst (ts.map V.ref)) ∧ ts.length = i ∧ ∀ (j : Nat) (t : Addr) (s : Sec), ts[j]? = some t → acc[j]? = some s → H2 t = some (.tup (secV s)))
        ⟨fun b o e => by rw [upd_ne (ne_of_none e hD)]; exact e, [], upd_same, rfl, fun j t s e => by simp at e⟩ (fun i H2 _ ⟨k2, _⟩ => SqL.of (k2 _ _ hL1)) ?_ ?_
      · rintro i y H2 H3 hi ⟨k2, ts, hD2, lts, hts⟩ ⟨e, hy⟩
        subst e
        have hic : i < acc.length := by rw [hlz] at hi; exact hi
        obtain ⟨a, ha, rfl⟩ : ∃ a, as[i]? = some a ∧ y = V.ref a := by
          rw [List.getElem?_map] at hy
          obtain ⟨t, z1, z2⟩ := Option.map_eq_some_iff.mp hy
          exact ⟨t, z1, z2.symm⟩
        have hc : acc[i]? = some acc[i] := List.getElem?_eq_getElem hic
        have hal := k2 _ _ (I.it i a _ ha hc)
        have hkd : KDct K w kp (letterS acc[i].1) (.str (kindS acc[i].1)) := by
          cases acc[i].1
          · exact R.kN
          · exact R.kW
        refine ⟨a, _, rfl, SqL.of hal, rfl, _, _, rfl, _, _, rfl, rfl, rfl, yes_of ?_⟩
        refine ⟨kp, rfl, R.kM, ⟨_, _, R.kN⟩, _, rfl, _, _, rfl, hkd, _, rfl, by show 2 ≤ sizeLine; decide, fun t ht => ?_⟩
        have nDt : D ≠ t := ne_of_none hD2 ht
        refine ⟨_, by rw [upd_ne nDt]; exact hD2, by rw [List.length_map, lts]; exact small1000 (by omega), fun b o e => ?_, ts ++ [t], by rw [upd_same, List.map_append]; rfl, by rw [List.length_append, lts]; rfl, fun j t2 s e1 e2 => ?_⟩
        · rw [upd_ne (ne_of_none e hD), upd_ne (ne_of_none (k2 _ _ e) ht)]
          exact k2 _ _ e
        · rcases Nat.lt_or_ge j ts.length with lt | ge
          · rw [List.getElem?_append_left lt] at e1
            have q := hts j t2 s e1 e2
            rw [upd_ne (ne_of q hD2 (by intro z; cases z)), upd_ne (ne_of_none q ht)]
            exact q
          · rw [List.getElem?_append_right ge] at e1
            have e0 : j - ts.length = 0 := by
              have := (List.getElem?_eq_some_iff.mp e1).1
              simp at this
              omega
            rw [e0] at e1
            have e1 : t = t2 := by simpa using e1
            subst e1
            have ej : j = i := by omega
            rw [ej, hc] at e2
            cases e2
            rw [upd_ne nDt.symm, upd_same]
            rfl
      · rintro H2 ⟨k2, ts, hD2, lts, hts⟩
        have hD0 : H D = none := by
          cases q : H D with
          | none => rfl
          | some o =>
            rw [s1 _ _ q] at hD
            cases hD
        exact k H2 D (s1.trans k2) hD0 ⟨ts, hD2, by rw [lts, hlz], hts⟩
end
end Sl

set_option Elab.async false
set_option linter.all false
set_option maxRecDepth 100000
set_option maxHeartbeats 1000000
namespace Sl
open PySem PySem.Spec L2 OwnR LamX
abbrev spRInit (C : Addr) : Sp := fun vs H Q E => ∃ ws rest, vs = ws ++ rest ∧ ws.length = (["self"] : List Str).length ∧ rest.length ≤ sizeLine ∧ ∀ p, H p = Option.none → spRInit0 C (ws ++ [V.ref p]) (upd H p (.tup rest)) Q E
section
variable {P : Program} {w : World} {K : PySem.W.Frag} {mg : Str → Option Value} {base : Heap}
def spOfUnits (C : Addr) : Sp := fun vs H Q _ => ∃ (u : Str) (bs : List Bool), vs = [.ref C, .str u] ∧ u.cps.toList = bs.map letterC ∧ bs.length ≤ 1000 ∧ SecsOk (runsOf bs) ∧ ∀ H' p, Same H H' → H p = none → RoadAt C H' p (runsOf bs) → Q (.ref p) H'
theorem scOfUnits : FnScope ["cls", "units", "sections"] ["cls", "units"] (defScope sROfUnits) := ⟨rfl, rfl, rfl, by decide +kernel, rfl, by decide +kernel, by decide +kernel⟩
theorem ok_ofUnits {f fI fR C lp kp : Addr} {fd dR : FuncData} (F : Fun K "of_units" "Road.of_units" sROfUnits f fd) (M : Mg mg) (R : RoadT K w mg C lp kp) (MK : Mk K C fI) (BR : Fb K mg "_runs" sRuns ["units"] fR dR)
    (GR : FnOk P w K mg base CX0 1 fR dR ["units"] spRuns) (GI : FnR P w K mg base CX0 3 fI (spRInit C)) : FnOk P w K mg base CX0 5 f fd ["cls", "units"] (spOfUnits C) := by
  refine F.ok scOfUnits (fun vs H Q E h => ?_) (fun cdv A outer s H vs Q E hr h => ?_)
  · obtain ⟨u, bs, rfl, _⟩ := h
    rfl
  · obtain ⟨u, bs, rfl, hu, hlen, S, k⟩ := h
    have nd := scOfUnits.nd
    refine ⟨_, pss_cons (ps_if (pt_not (pt_val (pe_callB call_isi (by rfl) M.isinstance boot_isinstance (pa_cons (pv 1) (pa_cons (pe_bltn (v := .ty "str") (by rfl) M.str boot_tStr rfl) pa_nil))))) (pss_one ps_never) pss_nil)
      (pss_cons (ps_set (i := 2) nd rfl (.inl rfl) (pe_call GR (hr.mono (by decide)) (by rfl) BR.at_ BR.fn.kp BR.bd .nil pass0 (pa_cons (pv 1) pa_nil)))
      (pss_one (ps_ret (pe_makeLS MK GI hr pass0 (pv 0) (pv 2))))), ?_⟩
    refine ⟨_, rfl, _, _, _, _, true, rfl, .ty _, .base (.str u), kit_ty (by decide +kernel), true, rfl, iteF ?_⟩
    refine ⟨_, rfl, u, bs, rfl, hu, hlen, fun H1 p s1 hp ⟨ts, h1, h2, h3⟩ => ?_⟩
    refine ⟨_, rfl, rfl, _, rfl, p, ts.map V.ref, rfl, .inr (SqL.of h1), fun x dx hx hdx ne => ?_⟩
    refine ⟨[.ref x], ts.map V.ref, rfl, rfl, by rw [List.length_map, h2]; have := S.few; exact Nat.le_of_lt (small1000 (by omega)), fun t ht => ?_⟩
    have hxt : x ≠ t := fun z => by
      rw [← z, upd_same] at ht
      cases ht
    have old : ∀ b o, H1 b = some o → (upd (upd (upd H1 dx (.own x)) x (.ins C dx [])) t (.tup (ts.map V.ref))) b = some o := fun b o e => by
      have e2 : (upd (upd H1 dx (.own x)) x (.ins C dx [])) b = some o := by
        rw [upd_ne (ne_of_none e hx), upd_ne (ne_of_none e hdx)]
        exact e
      rw [upd_ne (ne_of_none e2 ht)]
      exact e2
    refine ⟨x, dx, t, runsOf bs, rfl, by rw [upd_ne hxt, upd_same], ⟨ts, upd_same, h2, fun i a s e1 e2 => old _ _ (h3 i a s e1 e2)⟩, S, fun H2 us kp hX hus => ⟨rfl, ?_⟩⟩
    refine k H2 x (fun b o e => kp b o (old _ _ (s1 _ _ e)) (ne_of_none (s1 _ _ e) hx)) ?_ ⟨dx, t, us, hX, ⟨ts, ?_, h2, fun i a s e1 e2 => ?_⟩, hus⟩
    · cases q : H x with
      | none => rfl
      | some o =>
        rw [s1 _ _ q] at hx
        cases hx
    · exact kp _ _ upd_same hxt.symm
    · have q := h3 i a s e1 e2
      exact kp _ _ (old _ _ q) (ne_of_none q hx)
end
end Sl

/-! Driving, place by place. -/
namespace Sl
open OwnR
section
variable {N : Type} [DecidableEq N]
/-- the cars at a place: their order, their ticks -/
structure Pl (N : Type) where
  ord : List N
  tk : N → Int
def freeP (pace : N → Int) (p : Pl N) (len : Nat) (n : N) : Int := p.tk n + pace n * (len : Int)
def stepP (pace : N → Int) (p : Pl N) (s : Bool × Nat) : Pl N :=
  if s.1 then ⟨sortBy (freeP pace p s.2) p.ord, freeP pace p s.2⟩ else ⟨p.ord, tickOf (foll (freeP pace p s.2) p.ord)⟩
def leadP (pace : N → Int) (p : Pl N) (s : Bool × Nat) (n : N) : Option N := if s.1 then none else leadOf (foll (freeP pace p s.2) p.ord) n
def plc (pace : N → Int) (p0 : Pl N) (secs : List (Bool × Nat)) (k : Nat) : Pl N := (secs.take k).foldl (stepP pace) p0
theorem plc_zero (pace : N → Int) (p0 : Pl N) (secs : List (Bool × Nat)) : plc pace p0 secs 0 = p0 := rfl
theorem plc_succ (pace : N → Int) (p0 : Pl N) (secs : List (Bool × Nat)) {k : Nat} {s : Bool × Nat} (h : secs[k]? = some s) : plc pace p0 secs (k + 1) = stepP pace (plc pace p0 secs k) s := by
  unfold plc
  rw [List.take_add_one, h, List.foldl_append]
  rfl
/-- the leader in the section k -/
def ldr (pace : N → Int) (p0 : Pl N) (secs : List (Bool × Nat)) (k : Nat) (n : N) : Option N := match secs[k]? with
  | none => none
  | some s => leadP pace (plc pace p0 secs k) s n
theorem stepP_perm (pace : N → Int) (p : Pl N) (s : Bool × Nat) : (stepP pace p s).ord.Perm p.ord := by
  unfold stepP
  split
  · exact sortBy_perm _ _
  · exact List.Perm.refl _
theorem fold_perm (pace : N → Int) : ∀ (l : List (Bool × Nat)) (p : Pl N), (l.foldl (stepP pace) p).ord.Perm p.ord
  | [], _ => List.Perm.refl _
  | s :: r, p => (fold_perm pace r (stepP pace p s)).trans (stepP_perm pace p s)
theorem plc_perm (pace : N → Int) (p0 : Pl N) (secs : List (Bool × Nat)) (k : Nat) : (plc pace p0 secs k).ord.Perm p0.ord := fold_perm pace _ p0
end
end Sl

set_option Elab.async false
set_option linter.all false
set_option maxRecDepth 100000
set_option maxHeartbeats 1000000
namespace Sl
open PySem PySem.Spec L2 OwnR LamX
/-! ### a Drive's attributes -/
theorem k_ps : ¬ (("_paces" : Str) = "_sections") := by decide +kernel
theorem k_ts : ¬ (("_ticks" : Str) = "_sections") := by decide +kernel
theorem k_tp : ¬ (("_ticks" : Str) = "_paces") := by decide +kernel
theorem k_os : ¬ (("_orders" : Str) = "_sections") := by decide +kernel
theorem k_op : ¬ (("_orders" : Str) = "_paces") := by decide +kernel
theorem k_ot : ¬ (("_orders" : Str) = "_ticks") := by decide +kernel
theorem k_ls : ¬ (("_leaders" : Str) = "_sections") := by decide +kernel
theorem k_lp : ¬ (("_leaders" : Str) = "_paces") := by decide +kernel
theorem k_lt : ¬ (("_leaders" : Str) = "_ticks") := by decide +kernel
theorem k_lo : ¬ (("_leaders" : Str) = "_orders") := by decide +kernel
def df1 (sc : Addr) : List (Str × V) := putF "_sections" (.ref sc) []
def df2 (sc pd : Addr) : List (Str × V) := putF "_paces" (.ref pd) (df1 sc)
def df3 (sc pd lt : Addr) : List (Str × V) := putF "_ticks" (.ref lt) (df2 sc pd)
def df4 (sc pd lt lo : Addr) : List (Str × V) := putF "_orders" (.ref lo) (df3 sc pd lt)
def df5 (sc pd lt lo ll : Addr) : List (Str × V) := putF "_leaders" (.ref ll) (df4 sc pd lt lo)
section
variable (sc pd lt lo ll : Addr)
theorem df2_paces : (df2 sc pd).lookup ("_paces" : Str) = some (.ref pd) := by unfold df2; rw [lookup_putF, if_pos rfl]
theorem df3_ticks : (df3 sc pd lt).lookup ("_ticks" : Str) = some (.ref lt) := by unfold df3; rw [lookup_putF, if_pos rfl]
theorem df3_paces : (df3 sc pd lt).lookup ("_paces" : Str) = some (.ref pd) := by unfold df3; rw [lookup_putF, if_neg (Ne.symm k_tp)]; exact df2_paces sc pd
theorem df5_sections : (df5 sc pd lt lo ll).lookup ("_sections" : Str) = some (.ref sc) := by
  unfold df5 df4 df3 df2 df1
  rw [lookup_putF, if_neg (Ne.symm k_ls), lookup_putF, if_neg (Ne.symm k_os), lookup_putF, if_neg (Ne.symm k_ts), lookup_putF, if_neg (Ne.symm k_ps), lookup_putF, if_pos rfl]
theorem df5_paces : (df5 sc pd lt lo ll).lookup ("_paces" : Str) = some (.ref pd) := by
  unfold df5 df4
  rw [lookup_putF, if_neg (Ne.symm k_lp), lookup_putF, if_neg (Ne.symm k_op)]
  exact df3_paces sc pd lt
theorem df5_ticks : (df5 sc pd lt lo ll).lookup ("_ticks" : Str) = some (.ref lt) := by
  unfold df5 df4
  rw [lookup_putF, if_neg (Ne.symm k_lt), lookup_putF, if_neg (Ne.symm k_ot)]
  exact df3_ticks sc pd lt
theorem df5_orders : (df5 sc pd lt lo ll).lookup ("_orders" : Str) = some (.ref lo) := by
  unfold df5 df4
  rw [lookup_putF, if_neg (Ne.symm k_lo), lookup_putF, if_pos rfl]
theorem df5_leaders : (df5 sc pd lt lo ll).lookup ("_leaders" : Str) = some (.ref ll) := by
  unfold df5
  rw [lookup_putF, if_pos rfl]
theorem df5_no {m : Str} (h1 : ¬ m = "_sections") (h2 : ¬ m = "_paces") (h3 : ¬ m = "_ticks") (h4 : ¬ m = "_orders") (h5 : ¬ m = "_leaders") : (df5 sc pd lt lo ll).lookup m = none := by
  unfold df5 df4 df3 df2 df1
  rw [lookup_putF, if_neg h5, lookup_putF, if_neg h4, lookup_putF, if_neg h3, lookup_putF, if_neg h2, lookup_putF, if_neg h1]
  rfl
theorem df1_len : (df1 sc).length = 1 := rfl
theorem putF_len (f : Str) (v : V) : ∀ l : List (Str × V), (putF f v l).length ≤ l.length + 1
  | [] => by simp [putF]
  | (g, x) :: r => by
    unfold putF
    split
    · simp
    · have := putF_len f v r
      simp
      omega
end
/-! ### cars as functions of their names -/
def names (cars : List Car) : List Str := cars.map (·.name)
def paceOf (cars : List Car) (n : Str) : Int := ((cars.find? fun c => decide (c.name = n)).map (·.pace)).getD 0
def startOf (cars : List Car) (n : Str) : Int := ((cars.find? fun c => decide (c.name = n)).map (·.start)).getD 0
def pl0 (cars : List Car) : Pl Str := ⟨sortBy (startOf cars) (names cars), startOf cars⟩
abbrev plcC (secs : List Sec) (cars : List Car) (k : Nat) : Pl Str := plc (paceOf cars) (pl0 cars) secs k
abbrev ldrC (secs : List Sec) (cars : List Car) (k : Nat) (n : Str) : Option Str := ldr (paceOf cars) (pl0 cars) secs k n
theorem find_car {cars : List Car} (nd : (names cars).Nodup) {c : Car} (h : c ∈ cars) : cars.find? (fun d => decide (d.name = c.name)) = some c := by
  induction cars with
  | nil => cases h
  | cons a l ih =>
    unfold names at nd
    rw [List.map_cons, List.nodup_cons] at nd
    rcases List.mem_cons.mp h with e | h
    · subst e
      simp
    · have hne : ¬ a.name = c.name := fun z => nd.1 (by rw [z]; exact List.mem_map.mpr ⟨c, h, rfl⟩)
      rw [List.find?_cons, decide_eq_false hne]
      exact ih nd.2 h
theorem paceOf_car {cars : List Car} (nd : (names cars).Nodup) {c : Car} (h : c ∈ cars) : paceOf cars c.name = c.pace := by
  unfold paceOf
  rw [find_car nd h]
  rfl
theorem startOf_car {cars : List Car} (nd : (names cars).Nodup) {c : Car} (h : c ∈ cars) : startOf cars c.name = c.start := by
  unfold startOf
  rw [find_car nd h]
  rfl
theorem pl0_perm (cars : List Car) : (pl0 cars).ord.Perm (names cars) := sortBy_perm _ _
theorem plcC_perm (secs : List Sec) (cars : List Car) (k : Nat) : (plcC secs cars k).ord.Perm (names cars) := (plc_perm _ _ _ _).trans (pl0_perm cars)
/-- the dict of the paces -/
def paceK (cars : List Car) : List (Key × V) := cars.map fun c => (Sum.inr c.name, V.int c.pace)
theorem valV_names {g : Car → V} {cars : List Car} (nd : (names cars).Nodup) {c : Car} (h : c ∈ cars) : valV (cars.map fun c => ((Sum.inr c.name : Key), g c)) (Sum.inr c.name : Key) = some (g c) := by
  induction cars with
  | nil => cases h
  | cons a l ih =>
    unfold names at nd
    rw [List.map_cons, List.nodup_cons] at nd
    rcases List.mem_cons.mp h with e | h
    · subst e
      exact valV_pos rfl
    · have hne : ¬ (Sum.inr a.name : Key) = Sum.inr c.name := fun z => nd.1 (by rw [Sum.inr.inj z]; exact List.mem_map.mpr ⟨c, h, rfl⟩)
      rw [List.map_cons, valV_neg hne]
      exact ih nd.2 h
theorem paceK_get {cars : List Car} (nd : (names cars).Nodup) {n : Str} (h : n ∈ names cars) : valV (paceK cars) (Sum.inr n : Key) = some (.int (paceOf cars n)) := by
  obtain ⟨c, hc, rfl⟩ := List.mem_map.mp h
  rw [paceOf_car nd hc]
  exact valV_names (g := fun c => V.int c.pace) nd hc
/-! ### a Drive of which m sections are driven -/
structure DW where
  dx : Addr
  sc : Addr
  pd : Addr
  lt : Addr
  lo : Addr
  ll : Addr
  tds : List Addr
  ods : List Addr
  lds : List Addr
structure DP (C : Addr) (H0 H : Hp) (p : Addr) (secs : List Sec) (cars : List Car) (m : Nat) (W : DW) : Prop where
  ext : ExtN H0 H
  ins : H p = some (.ins C W.dx (df5 W.sc W.pd W.lt W.lo W.ll))
  sec : SecsAt H W.sc secs
  pac : H W.pd = some (.dK (paceK cars))
  lt : H W.lt = some (.lst (W.tds.map V.ref))
  ltl : W.tds.length = m + 1
  lo : H W.lo = some (.lst (W.ods.map V.ref))
  lol : W.ods.length = m + 1
  ll : H W.ll = some (.lst (W.lds.map V.ref))
  lll : W.lds.length = m
  tk : ∀ (k : Nat) (d : Addr), W.tds[k]? = some d → ∃ kv, H d = some (.dK kv) ∧ ∀ n ∈ names cars, valV kv (Sum.inr n : Key) = some (.int ((plcC secs cars k).tk n))
  od : ∀ (k : Nat) (d : Addr), W.ods[k]? = some d → H d = some (.lst ((plcC secs cars k).ord.map V.str))
  ld : ∀ (k : Nat) (d : Addr), W.lds[k]? = some d → ∃ kv, H d = some (.dK kv) ∧ ∀ n, valV kv (Sum.inr n : Key) = (ldrC secs cars k n).map V.str
  newp : New H0 p
  newt : New H0 W.lt
  newo : New H0 W.lo
  newl : New H0 W.ll
  nto : W.lt ≠ W.lo
  ntl : W.lt ≠ W.ll
  nol : W.lo ≠ W.ll
  odn : ∀ d ∈ W.ods, d ≠ W.lt ∧ d ≠ W.lo ∧ d ≠ W.ll
theorem DP.step {C : Addr} {H0 H H' : Hp} {p : Addr} {secs : List Sec} {cars : List Car} {m : Nat} {W : DW} (D : DP C H0 H p secs cars m W) (e : ExtN H H') : DP C H0 H' p secs cars m W where
  ext := D.ext.trans e
  ins := ExtN.ins e D.ins
  sec := D.sec.ext e
  pac := ExtN.dK e D.pac
  lt := ExtN.lst e D.lt
  ltl := D.ltl
  lo := ExtN.lst e D.lo
  lol := D.lol
  ll := ExtN.lst e D.ll
  lll := D.lll
  tk := fun k d h => let ⟨kv, a, b⟩ := D.tk k d h; ⟨kv, ExtN.dK e a, b⟩
  od := fun k d h => ExtN.lst e (D.od k d h)
  ld := fun k d h => let ⟨kv, a, b⟩ := D.ld k d h; ⟨kv, ExtN.dK e a, b⟩
  newp := D.newp
  newt := D.newt
  newo := D.newo
  newl := D.newl
  nto := D.nto
  ntl := D.ntl
  nol := D.nol
  odn := D.odn
/-- the lists of a drive of which m sections are driven, wherever they stand -/
structure DL (H0 H : Hp) (secs : List Sec) (cars : List Car) (m : Nat) (W : DW) : Prop where
  ext : ExtN H0 H
  lt : H W.lt = some (.lst (W.tds.map V.ref))
  ltl : W.tds.length = m + 1
  lo : H W.lo = some (.lst (W.ods.map V.ref))
  lol : W.ods.length = m + 1
  ll : H W.ll = some (.lst (W.lds.map V.ref))
  lll : W.lds.length = m
  tk : ∀ (k : Nat) (d : Addr), W.tds[k]? = some d → ∃ kv, H d = some (.dK kv) ∧ ∀ n ∈ names cars, valV kv (Sum.inr n : Key) = some (.int ((plcC secs cars k).tk n))
  od : ∀ (k : Nat) (d : Addr), W.ods[k]? = some d → H d = some (.lst ((plcC secs cars k).ord.map V.str))
  ld : ∀ (k : Nat) (d : Addr), W.lds[k]? = some d → ∃ kv, H d = some (.dK kv) ∧ ∀ n, valV kv (Sum.inr n : Key) = (ldrC secs cars k n).map V.str
  newt : New H0 W.lt
  newo : New H0 W.lo
  newl : New H0 W.ll
  nto : W.lt ≠ W.lo
  ntl : W.lt ≠ W.ll
  nol : W.lo ≠ W.ll
  odn : ∀ d ∈ W.ods, d ≠ W.lt ∧ d ≠ W.lo ∧ d ≠ W.ll
theorem DL.step {H0 H H' : Hp} {secs : List Sec} {cars : List Car} {m : Nat} {W : DW} (D : DL H0 H secs cars m W) (e : ExtN H H') : DL H0 H' secs cars m W where
  ext := D.ext.trans e
  lt := ExtN.lst e D.lt
  ltl := D.ltl
  lo := ExtN.lst e D.lo
  lol := D.lol
  ll := ExtN.lst e D.ll
  lll := D.lll
  tk := fun k d h => let ⟨kv, a, b⟩ := D.tk k d h; ⟨kv, ExtN.dK e a, b⟩
  od := fun k d h => ExtN.lst e (D.od k d h)
  ld := fun k d h => let ⟨kv, a, b⟩ := D.ld k d h; ⟨kv, ExtN.dK e a, b⟩
  newt := D.newt
  newo := D.newo
  newl := D.newl
  nto := D.nto
  ntl := D.ntl
  nol := D.nol
  odn := D.odn
/-- the dict of the starts -/
def startK (cars : List Car) : List (Key × V) := cars.map fun c => (Sum.inr c.name, V.int c.start)
theorem startK_get {cars : List Car} (nd : (names cars).Nodup) {n : Str} (h : n ∈ names cars) : valV (startK cars) (Sum.inr n : Key) = some (.int (startOf cars n)) := by
  obtain ⟨c, hc, rfl⟩ := List.mem_map.mp h
  rw [startOf_car nd hc]
  exact valV_names (g := fun c => V.int c.start) nd hc
theorem startK_keys (cars : List Car) : (startK cars).map (fun kv => kV kv.1) = (names cars).map V.str := by
  unfold startK names
  rw [List.map_map, List.map_map]
  rfl
end Sl

set_option Elab.async false
set_option linter.all false
set_option maxRecDepth 100000
set_option maxHeartbeats 2000000
namespace OwnR
open PySem PySem.Spec PyProof.Rows L2
/-! ### y = {k: v for x in xs} as a statement -/
theorem ps_setDc {X : Cx} {i : Nat} {y : Str} {py : Pos} {kx vx tg iter : Expr} {ifs : List Expr} {scope : Scope} {own : List (Str × Nat)} {pos spos : Pos} {wi : TI} {g : TG} {tt : TT} {tk tv : TE} (hc : X.calm = true) (hN : X.N.Nodup) (hy : X.N[i]? = some y) (hyl : X.env.scope.names.lookup y = some .local)
    (hsw : swapsWith (.DictComp kx vx [⟨tg, iter, ifs, 0⟩] scope pos) (some (.Name y py)) spos.line X.env = pure true) (hi : PI X tg iter wi) (ok : BlkOk X.N X.env.scope scope own)
    (hg : ∀ (s : Shared) (H : Hp) (C : Addr) (cl : List (Str × Addr)) (fp : List Addr), PG (X.blk s H scope (compEnvC scope cl C X.env) fp) tg g)
    (ht : ∀ (s : Shared) (H : Hp) (C : Addr) (cl : List (Str × Addr)) (fp : List Addr), PTs (X.blk s H scope (compEnvC scope cl C X.env) fp) ifs tt)
    (hk : ∀ (s : Shared) (H : Hp) (C : Addr) (cl : List (Str × Addr)) (fp : List Addr), PE (X.blk s H scope (compEnvC scope cl C X.env) fp) kx tk)
    (hv : ∀ (s : Shared) (H : Hp) (C : Addr) (cl : List (Str × Addr)) (fp : List Addr), PE (X.blk s H scope (compEnvC scope cl C X.env) fp) vx tv) (hs : ∀ x, foldedSetIterable iter X.env x = pure x := by intro _; rfl) :
    PS X (.Assign [.Name y py] (.DictComp kx vx [⟨tg, iter, ifs, 0⟩] scope pos) spos) (tAsg (tDc wi g tt tk tv (own.map (·.2))) (gName i)) := by
  refine ⟨fun pins s σ H D I h => ?_⟩
  have h' : tDc wi g tt tk tv (own.map (·.2)) σ H (fun x H1 => gName i x σ H1 D.nx) := h
  rw [exec_Assign_Name_used _ _ _ _ hsw]
  refine wpAny_bind (wpAny_standAt (wpAny_bind ?_))
  show wpAny _ X.A (do let _ ← comprehension (.DictComp kx vx [⟨tg, iter, ifs, 0⟩] scope pos) scope X.env (firstIterPos [⟨tg, iter, ifs, 0⟩] pos) newDict false (eval iter X.env) (some (assign (.Name y py) X.env))) _ _ s
  refine wpAny_bind (thn (dc_core (Qf := fun _ s' => SP X pins D .next s') hc hN I hi ok hg ht hk hv hs h' fun Dn C s' m H' J q hn f => ?_) fun _ s' hq => wpAny_pure (wpAny_pure hq))
  obtain ⟨f0, f1, f2, f3, f4, f5⟩ := f
  show wpAny _ _ (assign (.Name y py) X.env (.ref Dn)) _ _ _
  refine wpAny_assign_Name (store_ok2 (v := V.ref Dn) J hN hy (.inl hyl) rfl (fun s2 J2 ⟨a, sb, ha⟩ => ?_) (.inr hyl))
  have nCa : C ≠ a := ha.elim (fun z => by rw [z]; exact f1) fun z => fun e => f4 y a z e.symm
  exact ⟨m, hn.sameBut sb nCa, fun h3 sb3 => ⟨_, H', J2.turned (t' := s2.toks) (fun b o hb e => (sb3.2 b hb).trans e) f0 f1 f3 f4 f5, q⟩⟩
theorem sw_trueD {kx vx : Expr} {gs : List Comprehension} {scope : Scope} {pos py : Pos} {y : Str} {l : Nat} {env : Env} (hk : env.scope.kind = .function) (hy : env.scope.names.lookup y = some .local) (hl : (py.line == pos.line) = true)
    (ha : (scope.names.any fun (n, k) => n == y && (k == .local || k == .cell)) = false) : swapsWith (.DictComp kx vx gs scope pos) (some (.Name y py)) l env = pure true := by
  have k1 : env.kindOf y = some .local := hy
  have k2 : env.blockKind = .function := by
    unfold Env.blockKind
    rw [hk] <;> rfl
  unfold swapsWith
  simp only [k2, k1, ha, Expr.pos, hl] <;> rfl
end OwnR

set_option Elab.async false
set_option linter.all false
set_option maxRecDepth 100000
set_option maxHeartbeats 2000000
namespace OwnR
open PySem PySem.Spec PyProof.Rows L2
/-! ### a field as a target among others -/
def gFld (K : PySem.W.Frag) (ta : TE) (f : Str) : TG := fun v σ H Q => ta σ H fun x H1 => ∃ a C dx fs, x = .ref a ∧ H1 a = some (.ins C dx fs) ∧ Cls K C ∧ NoAttr K C f ∧ fs.length < 1000 ∧ Q σ (upd H1 a (.ins C dx (putF f v fs)))
theorem pg_fld {X : Cx} {o : Expr} {f : Str} {pos : Pos} {ta : TE} (ha : PE X o ta) : PG X (.Attribute o f pos) (gFld X.K ta f) := by
  refine ⟨fun pins s σ H v u Q I r h => ?_⟩
  rw [assign_Attribute]
  refine wpAny_bind (wpAny_holding (thn (ha.run pins s σ H _ I h) fun ov s1 ⟨x, H1, I1, rx, a, C, dx, fs, ex, ea, c, n, l, q⟩ => ?_))
  subst ex
  obtain rfl : ov = Value.ref a := rx
  refine wpAny_bind (wpAny_standAt (wpAny_bind (wpAny_holding (setattr_ok I1 ea c n l r fun s3 I3 => ?_))))
  exact wpAny_release ⟨σ, _, I3, q⟩
end OwnR

set_option Elab.async false
set_option linter.all false
set_option maxRecDepth 100000
set_option maxHeartbeats 1000000
namespace Sl
open PySem PySem.Spec L2 OwnR LamX
/-- three lists of a Drive, each one longer -/
def upd3 (H : Hp) (W : DW) (td od ld : Addr) : Hp := upd (upd (upd H W.lt (.lst (W.tds.map V.ref ++ [.ref td]))) W.lo (.lst (W.ods.map V.ref ++ [.ref od]))) W.ll (.lst (W.lds.map V.ref ++ [.ref ld]))
def DW.more (W : DW) (td od ld : Addr) : DW := { W with tds := W.tds ++ [td], ods := W.ods ++ [od], lds := W.lds ++ [ld] }
theorem snoc_get {α : Type} {l : List α} {x y : α} {k : Nat} (h : (l ++ [x])[k]? = some y) : l[k]? = some y ∨ (k = l.length ∧ x = y) := by
  rcases Nat.lt_or_ge k l.length with lt | ge
  · rw [List.getElem?_append_left lt] at h
    exact .inl h
  · rw [List.getElem?_append_right ge] at h
    have e0 : k - l.length = 0 := by
      have := (List.getElem?_eq_some_iff.mp h).1
      simp at this
      omega
    rw [e0] at h
    exact .inr ⟨by omega, by simpa using h⟩
theorem DL.push {H0 H : Hp} {secs : List Sec} {cars : List Car} {m : Nat} {W : DW} (D : DL H0 H secs cars m W) {td od ld : Addr} {kt kl : List (Key × V)}
    (h1 : H td = some (.dK kt)) (t1 : ∀ n ∈ names cars, valV kt (Sum.inr n : Key) = some (.int ((plcC secs cars (m + 1)).tk n)))
    (h2 : H od = some (.lst ((plcC secs cars (m + 1)).ord.map V.str))) (o2 : od ≠ W.lt ∧ od ≠ W.lo ∧ od ≠ W.ll)
    (h3 : H ld = some (.dK kl)) (l3 : ∀ n, valV kl (Sum.inr n : Key) = (ldrC secs cars m n).map V.str) : DL H0 (upd3 H W td od ld) secs cars (m + 1) (W.more td od ld) := by
  have old : ∀ b o, H b = some o → b ≠ W.lt → b ≠ W.lo → b ≠ W.ll → upd3 H W td od ld b = some o := fun b o e n1 n2 n3 => by
    unfold upd3
    rw [upd_ne n3, upd_ne n2, upd_ne n1]
    exact e
  have nl : ∀ b o, H b = some o → (∀ xs, o ≠ .lst xs) → upd3 H W td od ld b = some o := fun b o e n =>
    old b o e (ne_of e D.lt (n _)) (ne_of e D.lo (n _)) (ne_of e D.ll (n _))
  refine { D with ext := ?_, lt := ?_, ltl := ?_, lo := ?_, lol := ?_, ll := ?_, lll := ?_, tk := ?_, od := ?_, ld := ?_, odn := ?_ }
  · exact fun b o e n => old b o (D.ext b o e n) (D.newt b o e n) (D.newo b o e n) (D.newl b o e n)
  · show upd3 H W td od ld W.lt = some (.lst ((W.tds ++ [td]).map V.ref))
    unfold upd3
    rw [upd_ne D.ntl, upd_ne D.nto, upd_same, List.map_append]
    rfl
  · show (W.tds ++ [td]).length = _
    rw [List.length_append, D.ltl]
    rfl
  · show upd3 H W td od ld W.lo = some (.lst ((W.ods ++ [od]).map V.ref))
    unfold upd3
    rw [upd_ne D.nol, upd_same, List.map_append]
    rfl
  · show (W.ods ++ [od]).length = _
    rw [List.length_append, D.lol]
    rfl
  · show upd3 H W td od ld W.ll = some (.lst ((W.lds ++ [ld]).map V.ref))
    unfold upd3
    rw [upd_same, List.map_append]
    rfl
  · show (W.lds ++ [ld]).length = _
    rw [List.length_append, D.lll]
    rfl
  · intro k d h
    rcases snoc_get (show (W.tds ++ [td])[k]? = some d from h) with h | ⟨hk, rfl⟩
    · obtain ⟨kv, a, b⟩ := D.tk k d h
      exact ⟨kv, nl _ _ a fun xs z => (nomatch z), b⟩
    · rw [D.ltl] at hk
      subst hk
      exact ⟨kt, nl _ _ h1 fun xs z => (nomatch z), t1⟩
  · intro k d h
    rcases snoc_get (show (W.ods ++ [od])[k]? = some d from h) with h | ⟨hk, rfl⟩
    · have q := D.odn d (List.mem_of_getElem? h)
      exact old _ _ (D.od k d h) q.1 q.2.1 q.2.2
    · rw [D.lol] at hk
      subst hk
      exact old _ _ h2 o2.1 o2.2.1 o2.2.2
  · intro k d h
    rcases snoc_get (show (W.lds ++ [ld])[k]? = some d from h) with h | ⟨hk, rfl⟩
    · obtain ⟨kv, a, b⟩ := D.ld k d h
      exact ⟨kv, nl _ _ a fun xs z => (nomatch z), b⟩
    · rw [D.lll] at hk
      subst hk
      exact ⟨kl, nl _ _ h3 fun xs z => (nomatch z), l3⟩
  · intro d hd
    rcases List.mem_append.mp (show d ∈ W.ods ++ [od] from hd) with hd | hd
    · exact D.odn d hd
    · rw [List.mem_singleton.mp hd]
      exact o2
theorem Tabs.keepL {T : List (Addr × Str)} {H H' : Hp} (t : Tabs T H) (e : ∀ b o, H b = some o → (∀ xs, o ≠ .lst xs) → H' b = some o) : Tabs T H' := fun p hp => by
  obtain ⟨ps, h1, h2, h3⟩ := t p hp
  refine ⟨ps, e _ _ h1 fun xs z => (nomatch z), h2, fun pos cv hc => ?_⟩
  obtain ⟨c, e1, e2⟩ := h3 pos cv hc
  exact ⟨c, e1, e _ _ e2 fun xs z => by unfold CodeO at z; cases z⟩
theorem upd3_keep {H : Hp} {W : DW} {td od ld : Addr} {a b c : List V} (h1 : H W.lt = some (.lst a)) (h2 : H W.lo = some (.lst b)) (h3 : H W.ll = some (.lst c)) : ∀ x o, H x = some o → (∀ xs, o ≠ .lst xs) → upd3 H W td od ld x = some o := fun x o e n => by
  unfold upd3
  rw [upd_ne (ne_of e h3 (n _)), upd_ne (ne_of e h2 (n _)), upd_ne (ne_of e h1 (n _))]
  exact e
theorem lead_map (acc : List (RowT Str)) (n : Str) : ((look acc n).bind fun x => x.2.map V.str) = (leadOf acc n).map V.str := by
  unfold leadOf
  cases look acc n with
  | none => rfl
  | some x => rfl
/-- what the program asks of the class Drive -/
structure DriveT (K : PySem.W.Frag) (mg : Str → Option Value) (C : Addr) : Prop where
  cl : Cls K C
  nS : NoAttr K C "_sections"
  nP : NoAttr K C "_paces"
  nT : NoAttr K C "_ticks"
  nO : NoAttr K C "_orders"
  nL : NoAttr K C "_leaders"
  mgC : mg "Drive" = some (.ref C)
/-- a method of a class, as callers want it -/
structure Fm (K : PySem.W.Frag) (C : Addr) (x qual : Str) (st : Stmt) (ps : List Str) (f : Addr) (fd : FuncData) : Prop where
  fn : Fun K x qual st f fd
  at_ : Meth K C x f
  bd : Binds K fd ps []
section
variable {P : Program} {w : World} {K : PySem.W.Frag} {mg : Str → Option Value} {base : Heap}
def spDriveAll (K : PySem.W.Frag) (T : List (Addr × Str)) : Sp := fun vs H Q _ => ∃ (sc sd pd : Addr) (secs : List Sec) (cars : List Car), vs = [.ref sc, .ref sd, .ref pd] ∧ SecsAt H sc secs ∧ H sd = some (.dK (startK cars)) ∧ H pd = some (.dK (paceK cars)) ∧ SecsOk secs ∧ CarsOk cars ∧ Tabs T H ∧
  ∀ H' t W, DL H H' secs cars secs.length W → H' t = some (.tup [.ref W.lt, .ref W.lo, .ref W.ll]) → New H t → Tabs T H' → Q (.ref t) H'
def nDriveAll : List Str := ["sections", "starts", "paces", "ticks", "orders", "leaders", "kind", "length", "order", "left", "led", "car"]
theorem scDriveAll : FnScope nDriveAll ["sections", "starts", "paces"] (defScope sDriveAll) := ⟨rfl, rfl, rfl, by decide +kernel, rfl, by decide +kernel, by decide +kernel⟩
theorem atI_lst {α : Type} {xs : List α} {m : Nat} {v : α} (hl : xs.length = m + 1) (h : xs[m]? = some v) : atI xs (-1) = some v := by
  obtain ⟨r, x, e, hr⟩ := snoc_of hl
  subst e
  rw [List.getElem?_append_right (by omega), hr] at h
  simp at h
  subst h
  exact atI_last _ _
theorem ok_driveAll {f fO fF c Pt : Addr} {fd dO dF : FuncData} {T : List (Addr × Str)} (F : Fun K "drive_all" "drive_all" sDriveAll f fd) (M : Mg mg)
    (BO : FbC K mg "_in_order" sInOrder ["names", "ticks"] fO dO c) (BF : Fb K mg "_follow" sFollow ["order", "free"] fF dF)
    (GO : FnOk P w K mg base CX0 3 fO dO ["names", "ticks"] (spInOrder K T)) (GF : FnOk P w K mg base CX0 1 fF dF ["order", "free"] (spFollow K)) :
    FnOk P w K mg base CX0 4 f fd ["sections", "starts", "paces"] (spDriveAll K T) := by
  refine F.ok scDriveAll (fun vs H Q E h => ?_) (fun cdv A outer s H vs Q E hr h => ?_)
  · obtain ⟨sc, sd, pd, secs, cars, rfl, _⟩ := h
    rfl
  · obtain ⟨sc, sd, pd, secs, cars, rfl, hS, hsd, hpd, SO, CO, hT, k⟩ := h
    have nd := scDriveAll.nd
    have hu := hu_of hr
    refine ⟨_, pss_cons (ps_set (i := 3) nd rfl (.inr rfl) (pe_lst (pa_cons (pv 1) pa_nil)))
      (pss_cons (ps_set (i := 4) nd rfl (.inl rfl) (pe_lst (pa_cons (pe_call GO hr (by rfl) BO.at_ BO.fn.kp BO.bd .nil pass0 (pa_cons (pe_callTy (call_list_dK rfl) (by rfl) M.list (by decide +kernel) (pa_cons (pv 1) pa_nil)) (pa_cons (pv 1) pa_nil))) pa_nil)))
      (pss_cons (ps_set (i := 5) nd rfl (.inl rfl) (pe_lst pa_nil))
      (pss_cons (ps_for PassesOwn.never rfl (pi_tup (pv 0)) (pg_tup rfl (pgs_cons (pg_name (i := 6) nd rfl (.inl rfl)) (pgs_cons (pg_name (i := 7) nd rfl (.inr rfl)) pgs_nil)))
        (pss_cons (ps_set (i := 8) nd rfl (.inl rfl) (pe_ix ix_list (pv 4) (pe_un un_neg pe_int) (fun _ _ => rfl)))
        (pss_cons (ps_setDc (i := 9) (own := [("car", 11)]) (g := gName 11) (tt := tYes) (tk := tVar 11) (tv := tOp (rI0 fun i j => .int (i + j)) (tDGet (tOp (rIxL K) (tVar 3) (tUn (rU fun i => .int (-i)) (tC (.int 1)))) (tVar 11)) (tOp (rI CMul fun i j => .int (i * j)) (tDGet (tVar 2) (tVar 11)) (tVar 7))) (by rfl) nd rfl rfl (sw_trueD rfl rfl rfl (by decide +kernel)) (pi_list (pv 8)) (blkOk_by (N := nDriveAll) (sc := defScope sDriveAll) (by decide +kernel))
            (fun _ _ _ _ _ => pg_name (i := 11) nd rfl (Or.inl rfl)) (fun _ _ _ _ _ => pts_nil) (fun _ _ _ _ _ => pv 11)
            (fun _ _ _ _ _ => pe_op op_add (pe_dget hu (pe_ix (r := rIxL K) ix_list (pv 3) (pe_un un_neg pe_int) (fun _ _ => rfl)) (pv 11) (fun _ _ => rfl)) (pe_op op_mul (pe_dget hu (pv 2) (pv 11) (fun _ _ => rfl)) (pv 7))))
        (pss_cons (ps_set (i := 10) nd rfl (.inl rfl) pe_dnewK)
        (pss_cons (ps_if (pt_cmpR op_eq (pv 6) pe_str (nomark _))
            (pss_one (ps_set (i := 8) nd rfl (.inl rfl) (pe_call GO hr (by rfl) BO.at_ BO.fn.kp BO.bd .nil pass0 (pa_cons (pv 8) (pa_cons (pv 9) pa_nil)))))
            (pss_one (ps_asg (pe_call GF (hr.mono (by decide)) (by rfl) BF.at_ BF.fn.kp BF.bd .nil pass0 (pa_cons (pv 8) (pa_cons (pv 9) pa_nil))) (pg_tup rfl (pgs_cons (pg_name (i := 9) nd rfl (.inl rfl)) (pgs_cons (pg_name (i := 10) nd rfl (.inl rfl)) pgs_nil))))))
        (pss_cons (ps_expr (pe_bm PySem.F.plainAttrs_list PySem.F.slot_list_append PySem.F.type_list_append mt_append (pv 3) (pa_cons (pv 9) pa_nil)))
        (pss_cons (ps_expr (pe_bm PySem.F.plainAttrs_list PySem.F.slot_list_append PySem.F.type_list_append mt_append (pv 4) (pa_cons (pv 8) pa_nil)))
        (pss_one (ps_expr (pe_bm PySem.F.plainAttrs_list PySem.F.slot_list_append PySem.F.type_list_append mt_append (pv 5) (pa_cons (pv 10) pa_nil)))))))))))
      (pss_one (ps_ret (pe_tup (pa_cons (pv 3) (pa_cons (pv 4) (pa_cons (pv 5) pa_nil))))))))), ?_⟩
    have ndn : (names cars).Nodup := CO.nd
    refine ⟨_, rfl, by show 1 ≤ sizeLine; decide, fun lt hlt => ?_⟩
    have s1 : Same H (upd H lt (.lst [.ref sd])) := fun b o e => by rw [upd_ne (ne_of_none e hlt)]; exact e
    have hlt1 : (upd H lt (.lst [.ref sd])) lt = some (.lst [.ref sd]) := upd_same
    show tSeq _ _ _ _ (upd H lt (.lst [.ref sd]))
    generalize upd H lt (.lst [.ref sd]) = H1 at s1 hlt1 ⊢
    refine ⟨_, rfl, sd, _, rfl, s1 _ _ hsd, fun l hl => ?_⟩
    rw [startK_keys]
    have s2 : Same H1 (upd H1 l (.lst ((names cars).map V.str))) := fun b o e => by rw [upd_ne (ne_of_none e hl)]; exact e
    have hl2 : (upd H1 l (.lst ((names cars).map V.str))) l = some (.lst ((names cars).map V.str)) := upd_same
    have T2 : Tabs T (upd H1 l (.lst ((names cars).map V.str))) := hT.ext (s1.trans s2)
    refine ⟨_, rfl, l, sd, names cars, _, startOf cars, rfl, SqL.of hl2, s2 _ _ (s1 _ _ hsd), fun n hn => startK_get ndn hn, T2, fun H3 Do e3 T3 n3 hDo => ?_⟩
    have hlt3 := ExtN.lst e3 (s2 _ _ hlt1)
    have x3 : ExtN H H3 := (ExtN.same (s1.trans s2)).trans e3
    have nDot : Do ≠ lt := fun z => n3 lt _ (s2 _ _ hlt1) (fun _ y => nomatch y) z.symm
    refine ⟨by show 1 ≤ sizeLine; decide, fun lo hlo => ?_⟩
    have nto : lt ≠ lo := ne_of_none hlt3 hlo
    have nDo : Do ≠ lo := ne_of_none hDo hlo
    have s4 : Same H3 (upd H3 lo (.lst [.ref Do])) := fun b o e => by rw [upd_ne (ne_of_none e hlo)]; exact e
    have hlo4 : (upd H3 lo (.lst [.ref Do])) lo = some (.lst [.ref Do]) := upd_same
    show tSeq _ _ _ _ (upd H3 lo (.lst [.ref Do]))
    generalize upd H3 lo (.lst [.ref Do]) = H4 at s4 hlo4 ⊢
    have x4 : ExtN H H4 := x3.trans (ExtN.same s4)
    refine ⟨Nat.zero_le _, fun ll hll => ?_⟩
    have s5 : Same H4 (upd H4 ll (.lst [])) := fun b o e => by rw [upd_ne (ne_of_none e hll)]; exact e
    have hll5 : (upd H4 ll (.lst [])) ll = some (.lst []) := upd_same
    have hlt4 := s4 _ _ hlt3
    have ntl : lt ≠ ll := ne_of_none hlt4 hll
    have nol : lo ≠ ll := ne_of_none hlo4 hll
    have nDol : Do ≠ ll := ne_of_none (s4 _ _ hDo) hll
    show tSeq _ _ _ _ (upd H4 ll (.lst []))
    generalize upd H4 ll (.lst []) = H5 at s5 hll5 ⊢
    have x5 : ExtN H H5 := x4.trans (ExtN.same s5)
    have D0 : DL H H5 secs cars 0 ⟨sc, sc, pd, lt, lo, ll, [sd], [Do], []⟩ := by
      refine { ext := x5, lt := s5 _ _ hlt4, ltl := rfl, lo := s5 _ _ hlo4, lol := rfl, ll := hll5, lll := rfl, tk := ?_, od := ?_, ld := ?_, newt := New.of hlt, newo := New.ext x3 (New.of hlo), newl := New.ext x4 (New.of hll), nto := nto, ntl := ntl, nol := nol, odn := ?_ }
      · intro k d h
        have : k = 0 ∧ sd = d := by
          cases k with
          | zero => exact ⟨rfl, by simpa using h⟩
          | succ k => simp at h
        obtain ⟨rfl, rfl⟩ := this
        exact ⟨_, ExtN.dK x5 hsd, fun n hn => startK_get ndn hn⟩
      · intro k d h
        have : k = 0 ∧ Do = d := by
          cases k with
          | zero => exact ⟨rfl, by simpa using h⟩
          | succ k => simp at h
        obtain ⟨rfl, rfl⟩ := this
        exact s5 _ _ (s4 _ _ hDo)
      · intro k d h
        simp at h
      · intro d hd
        rw [List.mem_singleton.mp hd]
        exact ⟨nDot, nDo, nDol⟩
    have T5 : Tabs T H5 := T3.ext (s4.trans s5)
    obtain ⟨us, u1, u2, u3⟩ := hS
    have hus : (us.map V.ref).length = secs.length := by rw [List.length_map, u2]
    refine ⟨_, rfl, sc, rfl, ⟨_, SqT.of (ExtN.tup x5 u1)⟩, for_it walk_tup
      (fun i σ H6 => ∃ v6 v7 v8 v9 v10 W, σ = [some (.ref sc), some (.ref sd), some (.ref pd), some (.ref W.lt), some (.ref W.lo), some (.ref W.ll), v6, v7, v8, v9, v10, none] ∧ DL H H6 secs cars i W ∧ Tabs T H6)
      ⟨none, none, none, none, none, _, rfl, D0, T5⟩ (fun i σ H6 _ ⟨_, _, _, _, _, _, _, D6, _⟩ => SqT.of (ExtN.tup D6.ext u1)) ?_ ?_⟩
    · clear D0 T5 x5 x4 x3 s5 s4 hll5 hlo4 hlt4 hlt3 s1 s2 hlt1 hl2 T2 T3 n3 hDo e3
      rintro i y σ H6z H6 hi ⟨v6, v7, v8, v9, v10, W, rfl, D, hT6⟩ ⟨e, hy⟩
      subst e
      obtain ⟨t, ht, rfl⟩ : ∃ t, us[i]? = some t ∧ y = V.ref t := by
        rw [List.getElem?_map] at hy
        obtain ⟨t, z1, z2⟩ := Option.map_eq_some_iff.mp hy
        exact ⟨t, z1, z2.symm⟩
      have hml : i < secs.length := by rw [hus] at hi; exact hi
      have hs : secs[i]? = some secs[i] := List.getElem?_eq_getElem hml
      have hct := ExtN.tup D.ext (u3 i t _ ht hs)
      have c0 := SO.len _ (List.getElem_mem hml)
      have hfew := SO.few
      refine ⟨t, _, rfl, SqT.of hct, rfl, _, _, rfl, _, _, rfl, rfl, ?_⟩
      generalize secs[i] = sn at hs hct c0 ⊢
      have h99 := c0.2
      have hpd6 := ExtN.dK D.ext hpd
      obtain ⟨td, htd⟩ : ∃ td, W.tds[i]? = some td := ⟨_, List.getElem?_eq_getElem (by rw [D.ltl]; omega)⟩
      obtain ⟨od, hod⟩ : ∃ od, W.ods[i]? = some od := ⟨_, List.getElem?_eq_getElem (by rw [D.lol]; omega)⟩
      obtain ⟨kt, ht1, ht2⟩ := D.tk i td htd
      have ho1 := D.od i od hod
      have hperm := plcC_perm secs cars i
      have eN : plcC secs cars (i + 1) = stepP (paceOf cars) (plcC secs cars i) sn := plc_succ (paceOf cars) (pl0 cars) secs hs
      have eL : ∀ n, ldrC secs cars i n = leadP (paceOf cars) (plcC secs cars i) sn n := fun n => by
        show ldr (paceOf cars) (pl0 cars) secs i n = _
        unfold ldr
        rw [hs]
      generalize hpl : plcC secs cars i = pl at *
      have hmem : ∀ n ∈ pl.ord, n ∈ names cars := fun n h => hperm.mem_iff.mp h
      have hlen10 : pl.ord.length ≤ 10 := by
        rw [hperm.length_eq]
        unfold names
        rw [List.length_map]
        exact CO.few
      have hndo : pl.ord.Nodup := hperm.nodup_iff.mpr ndn
      have pcb : ∀ n ∈ names cars, 1 ≤ paceOf cars n ∧ paceOf cars n ≤ 60 := fun n h => by
        obtain ⟨c, hc, rfl⟩ := List.mem_map.mp h
        rw [paceOf_car ndn hc]
        exact ⟨(CO.all c hc).p0, (CO.all c hc).p1⟩
      refine ⟨_, rfl, _, rfl, W.lo, _, _, .ref od, rfl, rfl, SqL.of D.lo, atI_lst (by rw [List.length_map, D.lol]) (by rw [List.getElem?_map, hod]; rfl), ?_⟩
      refine ⟨_, rfl, od, rfl, ⟨_, SqL.of ho1⟩, fun Dd hDd => ?_⟩
      refine dc_it walk_list (fun i H1 => Same H6 H1 ∧ ∃ kvs : List (Key × V), H1 Dd = some (.dK kvs) ∧ kvs.length ≤ i ∧ ∀ n ∈ pl.ord.take i, valV kvs (Sum.inr n : Key) = some (.int (freeP (paceOf cars) pl sn.2 n)))
        ⟨fun b o e => by rw [upd_ne (ne_of_none e hDd)]; exact e, [], upd_same, Nat.le_refl _, fun n hn => by simp at hn⟩ (fun i H1 _ ⟨k1, _⟩ => SqL.of (k1 _ _ ho1)) ?_ ?_
      · rintro j y H1 H2 hj ⟨k1, kvs, hD1, lk, hk⟩ ⟨e, hy⟩
        subst e
        obtain ⟨n, hn, rfl⟩ : ∃ n, pl.ord[j]? = some n ∧ y = V.str n := by
          rw [List.getElem?_map] at hy
          obtain ⟨t, z1, z2⟩ := Option.map_eq_some_iff.mp hy
          exact ⟨t, z1, z2.symm⟩
        have hnm := hmem n (List.mem_of_getElem? hn)
        have pb := pcb n hnm
        have hio : j < pl.ord.length := (List.getElem?_eq_some_iff.mp hn).1
        refine ⟨rfl, yes_of ?_⟩
        refine ⟨_, rfl, _, rfl, _, rfl, W.lt, _, _, .ref td, rfl, rfl, SqL.of (k1 _ _ D.lt), atI_lst (by rw [List.length_map, D.ltl]) (by rw [List.getElem?_map, htd]; rfl), _, rfl, td, _, rfl, gk (k1 _ _ ht1) (ht2 n hnm), _, rfl, _, rfl, pd, _, rfl, gk (k1 _ _ hpd6) (paceK_get ndn hnm), _, rfl, _, _, rfl, rfl, .inl ⟨by omega, by omega⟩, _, _, rfl, rfl, ?_⟩
        refine ⟨kvs, Sum.inr n, rfl, hD1, small1000 (by omega), fun b o e => by rw [upd_ne (ne_of_none e hDd)]; exact k1 _ _ e, _, upd_same, Nat.le_trans (length_putK _ _ _) (by omega), fun a ha => ?_⟩
        rw [tk1 hn] at ha
        rw [valV_putS]
        by_cases ean : a = n
        · rw [if_pos ean, ean]
          rfl
        · rw [if_neg ean]
          rcases List.mem_append.mp ha with ha | ha
          · exact hk a ha
          · exact absurd (List.mem_singleton.mp ha) ean
      · rintro H1 ⟨k1, kvs, hD1, lk, hk⟩
        have e9 : pl.ord.take (pl.ord.map V.str).length = pl.ord := by rw [List.length_map, List.take_length]
        rw [e9] at hk
        intro G hG
        have sG : Same H6 (upd H1 G (.dK [])) := fun b o e => by rw [upd_ne (ne_of_none (k1 _ _ e) hG)]; exact k1 _ _ e
        have nDG : Dd ≠ G := ne_of_none hD1 hG
        have hD2 : (upd H1 G (.dK [])) Dd = some (.dK kvs) := by rw [upd_ne nDG]; exact hD1
        have TG : Tabs T (upd H1 G (.dK [])) := hT6.ext sG
        refine ⟨_, rfl, rfl, _, rfl, ?_⟩
        have ek : decide (V.str (kindS sn.1) = V.str "wide") = sn.1 := by cases sn.1 <;> decide +kernel
        rw [ek]
        cases hw : sn.1 with
        | true =>
          refine iteT ?_
          refine ⟨_, rfl, _, rfl, od, Dd, pl.ord, kvs, freeP (paceOf cars) pl sn.2, rfl, SqL.of (sG _ _ ho1), hD2, hk, TG, fun H5 Dn e5 T5 n5 hDn => ?_⟩
          have D5 := (D.step (ExtN.same sG)).step e5
          have estep : plcC secs cars (i + 1) = ⟨sortBy (freeP (paceOf cars) pl sn.2) pl.ord, freeP (paceOf cars) pl sn.2⟩ := by
            rw [eN]
            unfold stepP
            rw [hw]
            rfl
          have hD5 := ExtN.dK e5 hD2
          have hG5 : H5 G = some (.dK []) := ExtN.dK e5 upd_same
          have onL : ∀ b xs, H6 b = some (.lst xs) → b ≠ Dn := fun b xs e => n5 b _ (sG _ _ e) (fun _ z => nomatch z)
          have z1 : (W.tds.map V.ref).length < sizeLine := by rw [List.length_map, D.ltl]; exact small1000 (by omega)
          have z2 : (W.ods.map V.ref).length < sizeLine := by rw [List.length_map, D.lol]; exact small1000 (by omega)
          have z3 : (W.lds.map V.ref).length < sizeLine := by rw [List.length_map, D.lll]; exact small1000 (by omega)
          have l2 : ∀ o, (upd H5 W.lt (.lst o)) W.lo = some (.lst (W.ods.map V.ref)) := fun o => by rw [upd_ne D5.nto.symm]; exact D5.lo
          have l3 : ∀ o o2, (upd (upd H5 W.lt (.lst o)) W.lo (.lst o2)) W.ll = some (.lst (W.lds.map V.ref)) := fun o o2 => by rw [upd_ne D5.nol.symm, upd_ne D5.ntl.symm]; exact D5.ll
          refine ⟨_, rfl, .inl ⟨rfl, _, SqL.of D5.lt⟩, _, rfl, W.lt, _, _, rfl, rfl, D5.lt, z1, ?_⟩
          refine ⟨_, rfl, .inl ⟨rfl, _, SqL.of (l2 _)⟩, _, rfl, W.lo, _, _, rfl, rfl, l2 _, z2, ?_⟩
          refine ⟨_, rfl, .inl ⟨rfl, _, SqL.of (l3 _ _)⟩, _, rfl, W.ll, _, _, rfl, rfl, l3 _ _, z3, ?_⟩
          refine ⟨_, _, _, _, _, W.more Dd Dn G, rfl, D5.push (td := Dd) (od := Dn) (ld := G) hD5 (fun n hn => ?_) (by rw [estep]; exact hDn) ⟨(onL _ _ D.lt).symm, (onL _ _ D.lo).symm, (onL _ _ D.ll).symm⟩ hG5 (fun n => ?_), Tabs.keepL T5 (upd3_keep D5.lt D5.lo D5.ll)⟩
          · rw [estep]
            exact hk n (hperm.mem_iff.mpr hn)
          · rw [eL n]
            unfold leadP
            rw [hw]
            rfl
        | false =>
          refine iteF ?_
          refine ⟨_, rfl, _, rfl, od, Dd, pl.ord, kvs, freeP (paceOf cars) pl sn.2, rfl, SqL.of (sG _ _ ho1), hD2, hk, hndo, by omega, fun H5 t L G2 kL kG s5 nL nG nLG ht hL hG2 tL tG => ?_⟩
          have D5 := D.step (ExtN.same (sG.trans s5))
          have estep : plcC secs cars (i + 1) = ⟨pl.ord, tickOf (foll (freeP (paceOf cars) pl sn.2) pl.ord)⟩ := by
            rw [eN]
            unfold stepP
            rw [hw]
            rfl
          have ho5 := s5 _ _ (sG _ _ ho1)
          have q := D.odn od (List.mem_of_getElem? hod)
          refine ⟨t, _, rfl, SqT.of ht, rfl, _, _, rfl, _, _, rfl, rfl, ?_⟩
          have z1 : (W.tds.map V.ref).length < sizeLine := by rw [List.length_map, D.ltl]; exact small1000 (by omega)
          have z2 : (W.ods.map V.ref).length < sizeLine := by rw [List.length_map, D.lol]; exact small1000 (by omega)
          have z3 : (W.lds.map V.ref).length < sizeLine := by rw [List.length_map, D.lll]; exact small1000 (by omega)
          have l2 : ∀ o, (upd H5 W.lt (.lst o)) W.lo = some (.lst (W.ods.map V.ref)) := fun o => by rw [upd_ne D5.nto.symm]; exact D5.lo
          have l3 : ∀ o o2, (upd (upd H5 W.lt (.lst o)) W.lo (.lst o2)) W.ll = some (.lst (W.lds.map V.ref)) := fun o o2 => by rw [upd_ne D5.nol.symm, upd_ne D5.ntl.symm]; exact D5.ll
          refine ⟨_, rfl, .inl ⟨rfl, _, SqL.of D5.lt⟩, _, rfl, W.lt, _, _, rfl, rfl, D5.lt, z1, ?_⟩
          refine ⟨_, rfl, .inl ⟨rfl, _, SqL.of (l2 _)⟩, _, rfl, W.lo, _, _, rfl, rfl, l2 _, z2, ?_⟩
          refine ⟨_, rfl, .inl ⟨rfl, _, SqL.of (l3 _ _)⟩, _, rfl, W.ll, _, _, rfl, rfl, l3 _ _, z3, ?_⟩
          have T5 : Tabs T H5 := TG.ext s5
          refine ⟨_, _, _, _, _, W.more L od G2, rfl, D5.push (td := L) (od := od) (ld := G2) hL (fun n hn => ?_) (by rw [estep]; exact ho5) q hG2 (fun n => ?_), Tabs.keepL T5 (upd3_keep D5.lt D5.lo D5.ll)⟩
          · rw [estep, tL n]
            obtain ⟨x, hx⟩ := look_some (acc := foll (freeP (paceOf cars) pl sn.2) pl.ord) (n := n) (by rw [foll_names]; exact hperm.mem_iff.mpr hn)
            show _ = some (V.int (tickOf (foll (freeP (paceOf cars) pl sn.2) pl.ord) n))
            unfold tickOf
            rw [hx]
            rfl
          · rw [tG n, lead_map, eL n]
            unfold leadP
            rw [hw]
            rfl
    · rintro σ H6 ⟨v6, v7, v8, v9, v10, W, rfl, D, hT6⟩
      rw [hus] at D
      refine ⟨_, rfl, _, rfl, _, rfl, by show 3 ≤ sizeLine; decide, fun t ht => ?_⟩
      have s7 : Same H6 (upd H6 t (.tup [.ref W.lt, .ref W.lo, .ref W.ll])) := fun b o e => by rw [upd_ne (ne_of_none e ht)]; exact e
      exact k _ t W (D.step (ExtN.same s7)) upd_same (New.ext D.ext (New.of ht)) (hT6.ext s7)
end
end Sl

set_option Elab.async false
set_option linter.all false
set_option maxRecDepth 100000
set_option maxHeartbeats 1000000
namespace Sl
open PySem PySem.Spec L2 OwnR LamX
theorem Tabs.keepP {T : List (Addr × Str)} {H H' : Hp} {p C d : Addr} {fs : List (Str × V)} (t : Tabs T H) (hp : H p = some (.ins C d fs)) (e : ∀ b o, H b = some o → b ≠ p → H' b = some o) : Tabs T H' := fun q hq => by
  obtain ⟨ps, h1, h2, h3⟩ := t q hq
  refine ⟨ps, e _ _ h1 (ne_of h1 hp (by intro z; cases z)), h2, fun pos cv hc => ?_⟩
  obtain ⟨c, e1, e2⟩ := h3 pos cv hc
  exact ⟨c, e1, e _ _ e2 (ne_of e2 hp (by intro z; unfold CodeO at z; cases z))⟩
theorem valV_names_none {g : Car → V} {cars : List Car} {n : Str} (h : n ∉ names cars) : valV (cars.map fun c => ((Sum.inr c.name : Key), g c)) (Sum.inr n : Key) = none := by
  induction cars with
  | nil => rfl
  | cons a l ih =>
    unfold names at h
    rw [List.map_cons, List.mem_cons] at h
    have hne : ¬ (Sum.inr a.name : Key) = Sum.inr n := fun z => h (.inl (Sum.inr.inj z).symm)
    rw [List.map_cons, valV_neg hne]
    exact ih fun z => h (.inr z)
theorem take_new {cars : List Car} (nd : (names cars).Nodup) {i : Nat} {c : Car} (h : cars[i]? = some c) : c.name ∉ names (cars.take i) := by
  intro hm
  obtain ⟨j, hj⟩ := List.mem_iff_getElem?.mp hm
  unfold names at hj nd
  rw [List.getElem?_map] at hj
  obtain ⟨c', hc', en⟩ := Option.map_eq_some_iff.mp hj
  have hj2 : j < i := by
    have := (List.getElem?_eq_some_iff.mp hc').1
    rw [List.length_take] at this
    omega
  rw [List.getElem?_take_of_lt hj2] at hc'
  have a1 : (cars.map (·.name))[j]? = some c.name := by rw [List.getElem?_map, hc']; exact congrArg some en
  have a2 : (cars.map (·.name))[i]? = some c.name := by rw [List.getElem?_map, h]; rfl
  have := nd_ix nd a1 a2
  omega
theorem put_car {g : Car → V} {cars : List Car} (nd : (names cars).Nodup) {i : Nat} {c : Car} (h : cars[i]? = some c) :
    putK ((cars.take i).map fun c => ((Sum.inr c.name : Key), g c)) (Sum.inr c.name : Key) (g c) = (cars.take (i + 1)).map fun c => ((Sum.inr c.name : Key), g c) := by
  rw [putK_new _ (valV_names_none (take_new nd h)), tk1 h, List.map_append]
  rfl
section
variable {P : Program} {w : World} {K : PySem.W.Frag} {mg : Str → Option Value} {base : Heap}
def spDInit (CR C : Addr) (T : List (Addr × Str)) : Sp := fun vs H Q _ => ∃ (H0 : Hp) (p dx r a : Addr) (secs : List Sec) (cars : List Car), vs = [.ref p, .ref r, .ref a] ∧ H p = some (.ins C dx []) ∧ Same H0 H ∧ H0 p = none ∧ RoadAt CR H0 r secs ∧ CarsAt H0 a cars ∧ SecsOk secs ∧ CarsOk cars ∧ Tabs T H0 ∧
  ∀ H' W, DP C H0 H' p secs cars secs.length W → Tabs T H' → Q .non H'
def nDInit : List Str := ["self", "road", "cars", "starts", "name", "start", "pace"]
theorem scDInit : FnScope nDInit ["self", "road", "cars"] (defScope sDInit) := ⟨rfl, rfl, rfl, by decide +kernel, rfl, by decide +kernel, by decide +kernel⟩
theorem ok_dInit {f fK fA fP CR C lp kp pp : Addr} {fd dK dA dP : FuncData} {T : List (Addr × Str)} (F : Fm K C "__init__" "Drive.__init__" sDInit ["self", "road", "cars"] f fd) (M : Mg mg) (R : DriveT K mg C) (RR : RoadT K w mg CR lp kp)
    (BK : Fb K mg "check_cars" sCheckCars ["cars"] fK dK) (BA : Fb K mg "drive_all" sDriveAll ["sections", "starts", "paces"] fA dA)
    (PO : PropOf K CR "sections" pp fP) (bP : Binds K dP ["self"] [])
    (GK : FnOk P w K mg base CX0 3 fK dK ["cars"] spCheckCars) (GA : FnOk P w K mg base CX0 4 fA dA ["sections", "starts", "paces"] (spDriveAll K T))
    (GP : FnOk P w K mg base CX0 1 fP dP ["self"] (getSp CR "_sections")) :
    FnOk P w K mg base CX0 5 f fd ["self", "road", "cars"] (spDInit CR C T) := by
  refine F.fn.ok scDInit (fun vs H Q E h => ?_) (fun cdv A outer s H vs Q E hr h => ?_)
  · obtain ⟨H0, p, dx, r, a, secs, cars, rfl, _⟩ := h
    rfl
  · obtain ⟨H0, p, dx, r, a, secs, cars, rfl, hp, s0, p0, hR, hC, SO, CO, hT, k⟩ := h
    have nd := scDInit.nd
    have hu := hu_of hr
    have hr2 : Room 2 (A.deeper (PyProof.Rows.envOfC "Drive.__init__" (defScope sDInit) s.heap.objs.size f cdv)) := hr.mono (by decide)
    have hr3 : Room 3 (A.deeper (PyProof.Rows.envOfC "Drive.__init__" (defScope sDInit) s.heap.objs.size f cdv)) := hr.mono (by decide)
    refine ⟨_, pss_cons (ps_expr (pe_call GK hr3 (by rfl) BK.at_ BK.fn.kp BK.bd .nil pass0 (pa_cons (pv 2) pa_nil)))
      (pss_cons (ps_fld (pv 0) (pe_prop (pv 1) RR.cl PO GP hr2 bP .nil pass0 rfl) rfl)
      (pss_cons (ps_fld (pv 0) (pe_dc (own := [("name", 4), ("start", 5), ("pace", 6)]) (g := gTup K 3 (gCons (gName 4) (gCons (gName 5) (gCons (gName 6) gNil)))) (tt := tYes) (by rfl) nd (pi_tup (pv 2)) (blkOk_by (N := nDInit) (sc := defScope sDInit) (by decide +kernel))
          (fun _ _ _ _ _ => pg_tup rfl (pgs_cons (pg_name (i := 4) nd rfl (Or.inl rfl)) (pgs_cons (pg_name (i := 5) nd rfl (Or.inl rfl)) (pgs_cons (pg_name (i := 6) nd rfl (Or.inl rfl)) pgs_nil)))) (fun _ _ _ _ _ => pts_nil) (fun _ _ _ _ _ => pv 4) (fun _ _ _ _ _ => pv 6)) rfl)
      (pss_cons (ps_setDc (i := 3) (own := [("name", 4), ("start", 5), ("pace", 6)]) (g := gTup K 3 (gCons (gName 4) (gCons (gName 5) (gCons (gName 6) gNil)))) (tt := tYes) (tk := tVar 4) (tv := tVar 5) (by rfl) nd rfl rfl (sw_trueD rfl rfl rfl (by decide +kernel)) (pi_tup (pv 2)) (blkOk_by (N := nDInit) (sc := defScope sDInit) (by decide +kernel))
          (fun _ _ _ _ _ => pg_tup rfl (pgs_cons (pg_name (i := 4) nd rfl (Or.inl rfl)) (pgs_cons (pg_name (i := 5) nd rfl (Or.inl rfl)) (pgs_cons (pg_name (i := 6) nd rfl (Or.inl rfl)) pgs_nil)))) (fun _ _ _ _ _ => pts_nil) (fun _ _ _ _ _ => pv 4) (fun _ _ _ _ _ => pv 5))
      (pss_one (ps_asg (pe_call GA hr (by rfl) BA.at_ BA.fn.kp BA.bd .nil pass0 (pa_cons (pe_prop (pv 1) RR.cl PO GP hr2 bP .nil pass0 rfl) (pa_cons (pv 3) (pa_cons (pe_fld (pv 0) rfl) pa_nil)))) (pg_tup rfl (pgs_cons (pg_fld (pv 0)) (pgs_cons (pg_fld (pv 0)) (pgs_cons (pg_fld (pv 0)) pgs_nil))))))))), ?_⟩
    have ndn : (names cars).Nodup := CO.nd
    obtain ⟨ts, ha, hlen, hcar⟩ := hC
    obtain ⟨dr, tr, ur, hr1, hsc, _⟩ := hR
    refine ⟨_, rfl, a, cars, rfl, ⟨ts, s0 _ _ ha, hlen, fun i t c e1 e2 => s0 _ _ (hcar i t c e1 e2)⟩, CO, fun H1 s1 => ?_⟩
    have s01 : Same H0 H1 := s0.trans s1
    have hp1 := s1 _ _ hp
    refine ⟨_, rfl, r, dr, _, rfl, s01 _ _ hr1, r, dr, _, _, rfl, s01 _ _ hr1, rf_sections _ _, _, rfl, p, C, dx, _, rfl, hp1, R.cl, R.nS, (by show 0 < 1000; decide), ?_⟩
    have old2 : ∀ b o, H0 b = some o → upd H1 p (.ins C dx (df1 tr)) b = some o := fun b o e => by rw [upd_ne (ne_of_none e p0)]; exact s01 _ _ e
    have hp2 : upd H1 p (.ins C dx (df1 tr)) p = some (.ins C dx (df1 tr)) := upd_same
    show tSeq _ _ _ _ (upd H1 p (.ins C dx (df1 tr)))
    generalize upd H1 p (.ins C dx (df1 tr)) = H2 at old2 hp2 ⊢
    have htz : (ts.map V.ref).length = cars.length := by rw [List.length_map, hlen]
    have e9 : cars.take (ts.map V.ref).length = cars := by rw [htz, List.take_length]
    refine ⟨_, rfl, a, rfl, ⟨_, SqT.of (old2 _ _ ha)⟩, fun D hD => ?_⟩
    refine dc_it walk_tup (fun i H3 => Same H2 H3 ∧ H3 D = some (.dK ((cars.take i).map fun c => ((Sum.inr c.name : Key), V.int c.pace))))
      ⟨fun b o e => by rw [upd_ne (ne_of_none e hD)]; exact e, upd_same⟩ (fun i H3 _ ⟨k1, _⟩ => SqT.of (k1 _ _ (old2 _ _ ha))) ?_ ?_
    · rintro i y H3 H4 hi ⟨k1, hD1⟩ ⟨e, hy⟩
      subst e
      obtain ⟨t, ht, rfl⟩ : ∃ t, ts[i]? = some t ∧ y = V.ref t := by
        rw [List.getElem?_map] at hy
        obtain ⟨t, z1, z2⟩ := Option.map_eq_some_iff.mp hy
        exact ⟨t, z1, z2.symm⟩
      have hic : i < cars.length := by rw [htz] at hi; exact hi
      have hc : cars[i]? = some cars[i] := List.getElem?_eq_getElem hic
      have hct := k1 _ _ (old2 _ _ (hcar i t _ ht hc))
      refine ⟨t, _, rfl, SqT.of hct, rfl, _, _, rfl, _, _, rfl, _, _, rfl, rfl, rfl, yes_of ?_⟩
      refine ⟨_, rfl, _, rfl, _, Sum.inr cars[i].name, rfl, hD1, by rw [List.length_map, List.length_take]; have := CO.few; exact small1000 (by omega), fun b o e => by rw [upd_ne (ne_of_none e hD)]; exact k1 _ _ e, ?_⟩
      rw [upd_same, put_car (g := fun c => V.int c.pace) ndn hc]
    · rintro H3 ⟨k1, hD1⟩
      rw [e9] at hD1
      have hp3 := k1 _ _ hp2
      refine ⟨_, rfl, p, C, dx, _, rfl, hp3, R.cl, R.nP, (by show 1 < 1000; decide), ?_⟩
      have nDp : D ≠ p := ne_of hD1 hp3 (by intro z; cases z)
      have old4 : ∀ b o, H0 b = some o → upd H3 p (.ins C dx (df2 tr D)) b = some o := fun b o e => by rw [upd_ne (ne_of_none e p0)]; exact k1 _ _ (old2 _ _ e)
      have hp4 : upd H3 p (.ins C dx (df2 tr D)) p = some (.ins C dx (df2 tr D)) := upd_same
      have hD4 : upd H3 p (.ins C dx (df2 tr D)) D = some (.dK (paceK cars)) := by rw [upd_ne nDp]; exact hD1
      show tSeq _ _ _ _ (upd H3 p (.ins C dx (df2 tr D)))
      generalize upd H3 p (.ins C dx (df2 tr D)) = H4 at old4 hp4 hD4 ⊢
      refine ⟨_, rfl, a, rfl, ⟨_, SqT.of (old4 _ _ ha)⟩, fun D2 hD2 => ?_⟩
      refine dc_it walk_tup (fun i H3 => Same H4 H3 ∧ H3 D2 = some (.dK ((cars.take i).map fun c => ((Sum.inr c.name : Key), V.int c.start))))
        ⟨fun b o e => by rw [upd_ne (ne_of_none e hD2)]; exact e, upd_same⟩ (fun i H3 _ ⟨k1, _⟩ => SqT.of (k1 _ _ (old4 _ _ ha))) ?_ ?_
      · rintro i y H3 H5 hi ⟨k1, hD1⟩ ⟨e, hy⟩
        subst e
        obtain ⟨t, ht, rfl⟩ : ∃ t, ts[i]? = some t ∧ y = V.ref t := by
          rw [List.getElem?_map] at hy
          obtain ⟨t, z1, z2⟩ := Option.map_eq_some_iff.mp hy
          exact ⟨t, z1, z2.symm⟩
        have hic : i < cars.length := by rw [htz] at hi; exact hi
        have hc : cars[i]? = some cars[i] := List.getElem?_eq_getElem hic
        have hct := k1 _ _ (old4 _ _ (hcar i t _ ht hc))
        refine ⟨t, _, rfl, SqT.of hct, rfl, _, _, rfl, _, _, rfl, _, _, rfl, rfl, rfl, yes_of ?_⟩
        refine ⟨_, rfl, _, rfl, _, Sum.inr cars[i].name, rfl, hD1, by rw [List.length_map, List.length_take]; have := CO.few; exact small1000 (by omega), fun b o e => by rw [upd_ne (ne_of_none e hD2)]; exact k1 _ _ e, ?_⟩
        rw [upd_same, put_car (g := fun c => V.int c.start) ndn hc]
      · rintro H5 ⟨k5, hD5⟩
        rw [e9] at hD5
        have hp5 := k5 _ _ hp4
        have old5 : ∀ b o, H0 b = some o → H5 b = some o := fun b o e => k5 _ _ (old4 _ _ e)
        have T5 : Tabs T H5 := hT.ext old5
        have hD45 := k5 _ _ hD4
        have hS5 : SecsAt H5 tr secs := by
          obtain ⟨us, u1, u2, u3⟩ := hsc
          exact ⟨us, old5 _ _ u1, u2, fun i t s e1 e2 => old5 _ _ (u3 i t s e1 e2)⟩
        refine ⟨_, rfl, r, dr, _, rfl, old5 _ _ hr1, r, dr, _, _, rfl, old5 _ _ hr1, rf_sections _ _, _, rfl, _, rfl, p, C, dx, _, _, rfl, hp5, R.cl, R.nP, df2_paces _ _, ?_⟩
        refine ⟨tr, D2, D, secs, cars, rfl, hS5, hD5, hD45, SO, CO, T5, fun H6 t W L ht nt T6 => ?_⟩
        have hp6 := ExtN.ins L.ext hp5
        refine ⟨t, _, rfl, SqT.of ht, rfl, ?_⟩
        have i3 : upd H6 p (.ins C dx (df3 tr D W.lt)) p = some (.ins C dx (df3 tr D W.lt)) := upd_same
        have i4 : ∀ o, upd (upd H6 p o) p (.ins C dx (df4 tr D W.lt W.lo)) p = some (.ins C dx (df4 tr D W.lt W.lo)) := fun o => upd_same
        refine ⟨_, _, rfl, ⟨_, rfl, p, C, dx, _, rfl, hp6, R.cl, R.nT, (by show (df2 tr D).length < 1000; exact Nat.lt_of_le_of_lt (putF_len _ _ _) (by show 1 + 1 < 1000; decide)), ?_⟩⟩
        refine ⟨_, _, rfl, ⟨_, rfl, p, C, dx, _, rfl, i3, R.cl, R.nO, Nat.lt_of_le_of_lt (Nat.le_trans (putF_len _ _ _) (Nat.succ_le_succ (putF_len _ _ _))) (by show 1 + 1 + 1 < 1000; decide), ?_⟩⟩
        refine ⟨_, _, rfl, ⟨_, rfl, p, C, dx, _, rfl, i4 _, R.cl, R.nL, Nat.lt_of_le_of_lt (Nat.le_trans (putF_len _ _ _) (Nat.succ_le_succ (Nat.le_trans (putF_len _ _ _) (Nat.succ_le_succ (putF_len _ _ _))))) (by show 1 + 1 + 1 + 1 < 1000; decide), rfl, ?_⟩⟩
        have hpE : upd (upd (upd H6 p (.ins C dx (df3 tr D W.lt))) p (.ins C dx (df4 tr D W.lt W.lo))) p (.ins C dx (df5 tr D W.lt W.lo W.ll)) p = some (.ins C dx (df5 tr D W.lt W.lo W.ll)) := upd_same
        have keep : ∀ b o, H6 b = some o → b ≠ p → upd (upd (upd H6 p (.ins C dx (df3 tr D W.lt))) p (.ins C dx (df4 tr D W.lt W.lo))) p (.ins C dx (df5 tr D W.lt W.lo W.ll)) b = some o := fun b o e n => by
          rw [upd_ne n, upd_ne n, upd_ne n]
          exact e
        show Ends.nx _ _ (upd (upd (upd H6 p (.ins C dx (df3 tr D W.lt))) p (.ins C dx (df4 tr D W.lt W.lo))) p (.ins C dx (df5 tr D W.lt W.lo W.ll)))
        generalize upd (upd (upd H6 p (.ins C dx (df3 tr D W.lt))) p (.ins C dx (df4 tr D W.lt W.lo))) p (.ins C dx (df5 tr D W.lt W.lo W.ll)) = H9 at hpE keep ⊢
        have T9 : Tabs T H9 := Tabs.keepP T6 hp6 keep
        have np : ∀ b o, H6 b = some o → (∀ C d fs, o ≠ .ins C d fs) → H9 b = some o := fun b o e n => keep b o e (ne_of e hp6 (n _ _ _))
        have x05 : ExtN H0 H5 := fun b o e _ => old5 _ _ e
        refine k H9 ⟨dx, tr, D, W.lt, W.lo, W.ll, W.tds, W.ods, W.lds⟩ ?_ T9
        exact { ext := fun b o e n => keep b o (L.ext b o (old5 _ _ e) n) (ne_of_none e p0)
                ins := hpE
                sec := by
                  obtain ⟨us, u1, u2, u3⟩ := hS5
                  exact ⟨us, np _ _ (ExtN.tup L.ext u1) (fun _ _ _ z => nomatch z), u2, fun i t s e1 e2 => np _ _ (ExtN.tup L.ext (u3 i t s e1 e2)) (fun _ _ _ z => nomatch z)⟩
                pac := np _ _ (ExtN.dK L.ext hD45) (fun _ _ _ z => nomatch z)
                lt := np _ _ L.lt (fun _ _ _ z => nomatch z)
                ltl := L.ltl
                lo := np _ _ L.lo (fun _ _ _ z => nomatch z)
                lol := L.lol
                ll := np _ _ L.ll (fun _ _ _ z => nomatch z)
                lll := L.lll
                tk := fun k d h => let ⟨kv, a, b⟩ := L.tk k d h; ⟨kv, np _ _ a (fun _ _ _ z => nomatch z), b⟩
                od := fun k d h => np _ _ (L.od k d h) (fun _ _ _ z => nomatch z)
                ld := fun k d h => let ⟨kv, a, b⟩ := L.ld k d h; ⟨kv, np _ _ a (fun _ _ _ z => nomatch z), b⟩
                newp := New.of p0
                newt := New.ext x05 L.newt
                newo := New.ext x05 L.newo
                newl := New.ext x05 L.newl
                nto := L.nto
                ntl := L.ntl
                nol := L.nol
                odn := L.odn }
end
end Sl

set_option Elab.async false
set_option linter.all false
set_option maxRecDepth 100000
set_option maxHeartbeats 1000000
namespace Sl
open PySem PySem.Spec L2 OwnR LamX
/-- a Drive, all of it driven -/
def DA (C : Addr) (H : Hp) (p : Addr) (secs : List Sec) (cars : List Car) : Prop := ∃ H0 W, DP C H0 H p secs cars secs.length W
theorem DA.ext {C : Addr} {H H' : Hp} {p : Addr} {secs : List Sec} {cars : List Car} (h : DA C H p secs cars) (e : ExtN H H') : DA C H' p secs cars := let ⟨H0, W, D⟩ := h; ⟨H0, W, D.step e⟩
theorem paceK_none {cars : List Car} {n : Str} (h : n ∉ names cars) : valV (paceK cars) (Sum.inr n : Key) = none := valV_names_none (g := fun c => V.int c.pace) h
theorem paceK_some (cars : List Car) (n : Str) : (valV (paceK cars) (Sum.inr n : Key)).isSome = decide (n ∈ names cars) := by
  by_cases h : n ∈ names cars
  · rw [decide_eq_true h]
    induction cars with
    | nil => cases h
    | cons a l ih =>
      by_cases e : a.name = n
      · have : valV (paceK (a :: l)) (Sum.inr n : Key) = some (V.int a.pace) := by rw [← e]; exact valV_pos rfl
        rw [this]
        rfl
      · have hne : ¬ (Sum.inr a.name : Key) = Sum.inr n := fun z => e (Sum.inr.inj z)
        have hm : n ∈ names l := by
          unfold names at h ⊢
          rw [List.map_cons, List.mem_cons] at h
          rcases h with h | h
          · exact absurd h.symm e
          · exact h
        have : valV (paceK (a :: l)) (Sum.inr n : Key) = valV (paceK l) (Sum.inr n : Key) := valV_neg hne
        rw [this]
        exact ih hm
  · rw [decide_eq_false h, paceK_none h]
    rfl
section
variable {P : Program} {w : World} {K : PySem.W.Frag} {mg : Str → Option Value} {base : Heap}
/-! ### name in drive -/
def spHas (C : Addr) : Sp := fun vs H Q _ => ∃ (p : Addr) (secs : List Sec) (cars : List Car) (n : Str), vs = [.ref p, .str n] ∧ DA C H p secs cars ∧ Q (.bl (decide (n ∈ names cars))) H
theorem scHas : FnScope ["self", "x"] ["self", "x"] (defScope sDHas) := ⟨rfl, rfl, rfl, by decide +kernel, rfl, by decide +kernel, by decide +kernel⟩
theorem ok_has {f C : Addr} {fd : FuncData} (F : Fun K "__contains__" "Drive.__contains__" sDHas f fd) (M : Mg mg) (R : DriveT K mg C) : FnOk P w K mg base CX0 1 f fd ["self", "x"] (spHas C) := by
  refine F.ok scHas (fun vs H Q E h => ?_) (fun cdv A outer s H vs Q E hr h => ?_)
  · obtain ⟨p, secs, cars, n, rfl, _⟩ := h
    rfl
  · obtain ⟨p, secs, cars, n, rfl, ⟨H0, W, D⟩, k⟩ := h
    have hu := hu_of hr
    refine ⟨_, pss_one (ps_ret (pe_and (pe_callB call_isi (by rfl) M.isinstance boot_isinstance (pa_cons (pv 1) (pa_cons (pe_bltn (v := .ty "str") (by rfl) M.str boot_tStr rfl) pa_nil))) (pe_one (pe_cmp (pc_din hu (pv 1) (pe_fld (pv 0) rfl)) (by rfl))))), ?_⟩
    refine ⟨_, rfl, _, _, _, _, true, rfl, .ty _, .base (.str n), kit_ty (by decide +kernel), true, rfl, iteT ?_⟩
    refine ⟨_, rfl, _, rfl, p, C, W.dx, _, _, rfl, D.ins, R.cl, R.nP, df5_paces _ _ _ _ _, W.pd, _, rfl, DGet.k (k := (Sum.inr n : Key)) D.pac, ?_⟩
    rw [paceK_some]
    exact k
/-! ### _check_car -/
def spCheckCar (C : Addr) : Sp := fun vs H Q _ => ∃ (p : Addr) (secs : List Sec) (cars : List Car) (n : Str), vs = [.ref p, .str n] ∧ DA C H p secs cars ∧ n ∈ names cars ∧ Q .non H
theorem scCheckCar : FnScope ["self", "name"] ["self", "name"] (defScope sDCheckCar) := ⟨rfl, rfl, rfl, by decide +kernel, rfl, by decide +kernel, by decide +kernel⟩
theorem ok_checkCar {f fH C : Addr} {fd dH : FuncData} (F : Fm K C "_check_car" "Drive._check_car" sDCheckCar ["self", "name"] f fd) (hs : PySem.W.findIn K (.ref C) "__contains__" = some (some (.ref fH))) (hf : PySem.W.isFn K (.ref fH) = true) (bH : Binds K dH ["self", "x"] [])
    (GH : FnOk P w K mg base CX0 1 fH dH ["self", "x"] (spHas C)) : FnOk P w K mg base CX0 2 f fd ["self", "name"] (spCheckCar C) := by
  refine F.fn.ok scCheckCar (fun vs H Q E h => ?_) (fun cdv A outer s H vs Q E hr h => ?_)
  · obtain ⟨p, secs, cars, n, rfl, _⟩ := h
    rfl
  · obtain ⟨p, secs, cars, n, rfl, ⟨H0, W, D⟩, hn, k⟩ := h
    refine ⟨_, pss_one (ps_if (pt_cmpR (op_notInO hs hf (GH.raw bH .nil) hr pass0) (pv 1) (pv 0) (by rfl)) (pss_one ps_never) pss_nil), ?_⟩
    refine ⟨_, rfl, _, rfl, p, W.dx, _, rfl, D.ins, p, secs, cars, n, rfl, ⟨H0, W, D⟩, _, rfl, false, ?_, iteF k⟩
    rw [decide_eq_true hn]
    rfl
/-! ### _check_place, _check_section -/
def spCheckPlace (C : Addr) : Sp := fun vs H Q _ => ∃ (p : Addr) (secs : List Sec) (cars : List Car) (k : Nat), vs = [.ref p, .int (k : Nat)] ∧ DA C H p secs cars ∧ k ≤ secs.length ∧ Q .non H
theorem scCheckPlace : FnScope ["self", "place"] ["self", "place"] (defScope sDCheckPlace) := ⟨rfl, rfl, rfl, by decide +kernel, rfl, by decide +kernel, by decide +kernel⟩
theorem ok_checkPlace {f fB C : Addr} {fd dB : FuncData} (F : Fm K C "_check_place" "Drive._check_place" sDCheckPlace ["self", "place"] f fd) (M : Mg mg) (R : DriveT K mg C) (BB : Fb K mg "is_number" sIsNumber ["value", "least", "most"] fB dB)
    (GB : FnOk P w K mg base CX0 1 fB dB ["value", "least", "most"] spIsNumber) : FnOk P w K mg base CX0 2 f fd ["self", "place"] (spCheckPlace C) := by
  refine F.fn.ok scCheckPlace (fun vs H Q E h => ?_) (fun cdv A outer s H vs Q E hr h => ?_)
  · obtain ⟨p, secs, cars, n, rfl, _⟩ := h
    rfl
  · obtain ⟨p, secs, cars, n, rfl, ⟨H0, W, D⟩, hn, k⟩ := h
    obtain ⟨us, u1, u2, u3⟩ := D.sec
    refine ⟨_, pss_one (ps_if (pt_not (pt_val (pe_call GB hr (by rfl) BB.at_ BB.fn.kp BB.bd .nil pass0 (pa_cons (pv 1) (pa_cons pe_int (pa_cons (pe_callB call_len_seq (by rfl) M.len boot_len (pa_cons (pe_fld (pv 0) rfl) pa_nil)) pa_nil)))))) (pss_one ps_never) pss_nil), ?_⟩
    refine ⟨_, rfl, _, rfl, p, C, W.dx, _, _, rfl, D.ins, R.cl, R.nS, df5_sections _ _ _ _ _, W.sc, _, rfl, .inr (SqT.of u1), (n : Nat), 0, _, rfl, true, ?_, iteF k⟩
    rw [List.length_map, u2, decide_eq_true (by omega : (0 : Int) ≤ (n : Nat)), decide_eq_true (by omega : ((n : Nat) : Int) ≤ (secs.length : Nat))]
    rfl
/-! ### drive[name] -/
def tksL (secs : List Sec) (cars : List Car) (n : Str) : List Int := (List.range (secs.length + 1)).map fun k => (plcC secs cars k).tk n
def spGet (C : Addr) : Sp := fun vs H Q _ => ∃ (p : Addr) (secs : List Sec) (cars : List Car) (n : Str), vs = [.ref p, .str n] ∧ DA C H p secs cars ∧ n ∈ names cars ∧ secs.length ≤ 12 ∧ ∀ H' t, Same H H' → H' t = some (.tup ((tksL secs cars n).map V.int)) → Q (.ref t) H'
def nDGet : List Str := ["self", "at", "ticks"]
theorem scGet : FnScope nDGet ["self", "at"] (defScope sDGet) := ⟨rfl, rfl, rfl, by decide +kernel, rfl, by decide +kernel, by decide +kernel⟩
theorem ok_get {f fC C : Addr} {fd dC : FuncData} (F : Fun K "__getitem__" "Drive.__getitem__" sDGet f fd) (M : Mg mg) (R : DriveT K mg C) (BC : Fm K C "_check_car" "Drive._check_car" sDCheckCar ["self", "name"] fC dC)
    (GC : FnOk P w K mg base CX0 2 fC dC ["self", "name"] (spCheckCar C)) : FnOk P w K mg base CX0 3 f fd ["self", "at"] (spGet C) := by
  refine F.ok scGet (fun vs H Q E h => ?_) (fun cdv A outer s H vs Q E hr h => ?_)
  · obtain ⟨p, secs, cars, n, rfl, _⟩ := h
    rfl
  · obtain ⟨p, secs, cars, n, rfl, ⟨H0, W, D⟩, hn, h12, k⟩ := h
    have nd := scGet.nd
    have hu := hu_of hr
    have noF : ∀ {m : Str}, (¬ m = "_sections") → (¬ m = "_paces") → (¬ m = "_ticks") → (¬ m = "_orders") → (¬ m = "_leaders") → (df5 W.sc W.pd W.lt W.lo W.ll).lookup m = none := fun a b c d e => df5_no _ _ _ _ _ a b c d e
    refine ⟨_, pss_cons (ps_expr (pe_meth (pv 0) R.cl BC.at_ GC hr BC.bd .nil pass0 (pa_cons (pv 1) pa_nil)))
      (pss_one (ps_ret (pe_callTy call_tuple_of (by rfl) M.tuple boot_tTuple (pa_cons (pe_lc (own := [("ticks", 2)]) (g := gName 2) (tt := tYes) (te := tDGet (tVar 2) (tVar 1)) (by rfl) nd (pi_list (pe_fld (pv 0) rfl)) (blkOk_by (N := nDGet) (sc := defScope sDGet) (by decide +kernel))
        (fun _ _ _ _ _ => pg_name (i := 2) nd rfl (Or.inl rfl)) (fun _ _ _ _ _ => pts_nil) (fun _ _ _ _ _ => pe_dget hu (pv 2) (pv 1) (fun _ _ => rfl))) pa_nil)))), ?_⟩
    refine ⟨_, rfl, p, W.dx, _, rfl, D.ins, noF (by decide +kernel) (by decide +kernel) (by decide +kernel) (by decide +kernel) (by decide +kernel), _, rfl, p, secs, cars, n, rfl, ⟨H0, W, D⟩, hn, ?_⟩
    refine ⟨_, rfl, p, C, W.dx, _, _, rfl, D.ins, R.cl, R.nT, df5_ticks _ _ _ _ _, W.lt, rfl, ⟨_, SqL.of D.lt⟩, fun L hL => ?_⟩
    have hltz : (W.tds.map V.ref).length = secs.length + 1 := by rw [List.length_map, D.ltl]
    refine lc_it walk_list (fun i H1 => Same H H1 ∧ H1 L = some (.lst (((List.range i).map fun k => (plcC secs cars k).tk n).map V.int)))
      ⟨fun b o e => by rw [upd_ne (ne_of_none e hL)]; exact e, upd_same⟩ (fun i H1 _ ⟨k1, _⟩ => SqL.of (k1 _ _ D.lt)) ?_ ?_
    · rintro i y H1 H2 hi ⟨k1, hL1⟩ ⟨e, hy⟩
      subst e
      obtain ⟨t, ht, rfl⟩ : ∃ t, W.tds[i]? = some t ∧ y = V.ref t := by
        rw [List.getElem?_map] at hy
        obtain ⟨t, z1, z2⟩ := Option.map_eq_some_iff.mp hy
        exact ⟨t, z1, z2.symm⟩
      obtain ⟨kv, a1, a2⟩ := D.tk i t ht
      refine ⟨rfl, yes_of ?_⟩
      refine ⟨_, rfl, _, rfl, t, _, rfl, gk (k1 _ _ a1) (a2 n hn), _, hL1, ?_, fun b o e => by rw [upd_ne (ne_of_none e hL)]; exact k1 _ _ e, ?_⟩
      · rw [List.length_map, List.length_map, List.length_range]
        exact small1000 (by omega)
      · rw [upd_same, List.range_succ, List.map_append, List.map_append]
        rfl
    · rintro H1 ⟨k1, hL1⟩
      rw [hltz] at hL1
      refine ⟨L, _, rfl, .inl ⟨SqL.of hL1, fun t ht => ?_⟩⟩
      exact k _ t (fun b o e => by rw [upd_ne (ne_of_none (k1 _ _ e) ht)]; exact k1 _ _ e) upd_same
end
end Sl

set_option Elab.async false
set_option linter.all false
set_option maxRecDepth 100000
set_option maxHeartbeats 1000000
namespace Sl
open PySem PySem.Spec L2 OwnR LamX
section
variable {P : Program} {w : World} {K : PySem.W.Frag} {mg : Str → Option Value} {base : Heap}
/-! ### len(drive) -/
def spLenD (C : Addr) : Sp := fun vs H Q _ => ∃ (p : Addr) (secs : List Sec) (cars : List Car), vs = [.ref p] ∧ DA C H p secs cars ∧ Q (.int (cars.length : Nat)) H
theorem scLenD : FnScope ["self"] ["self"] (defScope sDLen) := ⟨rfl, rfl, rfl, by decide +kernel, rfl, by decide +kernel, by decide +kernel⟩
theorem ok_lenD {f C : Addr} {fd : FuncData} (F : Fun K "__len__" "Drive.__len__" sDLen f fd) (M : Mg mg) (R : DriveT K mg C) : FnOk P w K mg base CX0 1 f fd ["self"] (spLenD C) := by
  refine F.ok scLenD (fun vs H Q E h => ?_) (fun cdv A outer s H vs Q E hr h => ?_)
  · obtain ⟨p, secs, cars, rfl, _⟩ := h
    rfl
  · obtain ⟨p, secs, cars, rfl, ⟨H0, W, D⟩, k⟩ := h
    refine ⟨_, pss_one (ps_ret (pe_callB call_lenD (by rfl) M.len boot_len (pa_cons (pe_fld (pv 0) rfl) pa_nil))), ?_⟩
    refine ⟨_, rfl, p, C, W.dx, _, _, rfl, D.ins, R.cl, R.nP, df5_paces _ _ _ _ _, W.pd, _, rfl, D.pac, ?_⟩
    have e : (paceK cars).length = cars.length := by unfold paceK; rw [List.length_map]
    rw [e]
    exact k
/-! ### order_at -/
theorem DP.tdk {C : Addr} {H0 H : Hp} {p : Addr} {secs : List Sec} {cars : List Car} {m : Nat} {W : DW} (D : DP C H0 H p secs cars m W) {k : Nat} (h : k ≤ m) : ∃ d, W.tds[k]? = some d := ⟨_, List.getElem?_eq_getElem (by rw [D.ltl]; omega)⟩
theorem DP.odk {C : Addr} {H0 H : Hp} {p : Addr} {secs : List Sec} {cars : List Car} {m : Nat} {W : DW} (D : DP C H0 H p secs cars m W) {k : Nat} (h : k ≤ m) : ∃ d, W.ods[k]? = some d := ⟨_, List.getElem?_eq_getElem (by rw [D.lol]; omega)⟩
theorem DP.ldk {C : Addr} {H0 H : Hp} {p : Addr} {secs : List Sec} {cars : List Car} {m : Nat} {W : DW} (D : DP C H0 H p secs cars m W) {k : Nat} (h : k < m) : ∃ d, W.lds[k]? = some d := ⟨_, List.getElem?_eq_getElem (by rw [D.lll]; omega)⟩
theorem map_at {α β : Type} {xs : List α} {k : Nat} {v : α} (f : α → β) (h : xs[k]? = some v) : (xs.map f)[k]? = some (f v) := by rw [List.getElem?_map, h]; rfl
def strO (o : Option Str) : V := (o.map V.str).getD .non
/-! ### drive(name), drive(name, place) -/
def spCallD (C : Addr) : Sp := fun vs H Q _ => ∃ (p : Addr) (secs : List Sec) (cars : List Car) (n : Str) (i : Nat) (pl : V), vs = [.ref p, .str n, pl] ∧ DA C H p secs cars ∧ n ∈ names cars ∧ i ≤ secs.length ∧ ((pl = .non ∧ i = secs.length) ∨ pl = .int (i : Nat)) ∧ Q (.int ((plcC secs cars i).tk n)) H
theorem scCallD : FnScope ["self", "name", "place"] ["self", "name", "place"] (defScope sDCall) := ⟨rfl, rfl, rfl, by decide +kernel, rfl, by decide +kernel, by decide +kernel⟩
theorem ok_callD {f fB fC C : Addr} {fd dB dC : FuncData} (F : FunD K "__call__" "Drive.__call__" (defArgs sDCall) (defBody sDCall) (defScope sDCall) [.non] [] f fd) (M : Mg mg) (R : DriveT K mg C)
    (BC : Fm K C "_check_car" "Drive._check_car" sDCheckCar ["self", "name"] fC dC) (GC : FnOk P w K mg base CX0 2 fC dC ["self", "name"] (spCheckCar C))
    (BB : Fm K C "_check_place" "Drive._check_place" sDCheckPlace ["self", "place"] fB dB) (GB : FnOk P w K mg base CX0 2 fB dB ["self", "place"] (spCheckPlace C)) : FnOk P w K mg base CX0 3 f fd ["self", "name", "place"] (spCallD C) := by
  refine F.ok (CX := CX0) scCallD (fun vs H Q E h => ?_) (fun cdv A outer s H vs Q E hr h => ?_)
  · obtain ⟨p, secs, cars, n, i, pl, rfl, _⟩ := h
    rfl
  · suffices hq : ∃ t, PSs (cxOf CX0 P w K mg base ["self", "name", "place"] "Drive.__call__" (defScope sDCall) f cdv A outer s H E).nox (defBody sDCall) t ∧ t { nx := fun _ H' => Q .non H', rt := Q } (start ["self", "name", "place"] vs) H by
      obtain ⟨t, h1, h2⟩ := hq
      exact ⟨t, h1.nox, h2⟩
    obtain ⟨p, secs, cars, n, i, pl, rfl, ⟨H0, W, D⟩, hn, hi, hpl, k⟩ := h
    have hu := hu_of hr
    have nd := scCallD.nd
    refine ⟨_, pss_cons (ps_expr (pe_meth (pv 0) R.cl BC.at_ GC hr BC.bd .nil pass0 (pa_cons (pv 1) pa_nil)))
      (pss_cons (ps_if (pt_cmp (pc_isN (pv 2)) (by rfl)) (pss_one (ps_set (i := 2) nd rfl (.inl rfl) (pe_callB call_len_seq (by rfl) M.len boot_len (pa_cons (pe_fld (pv 0) rfl) pa_nil)))) pss_nil)
      (pss_cons (ps_expr (pe_meth (pv 0) R.cl BB.at_ GB hr BB.bd .nil pass0 (pa_cons (pv 2) pa_nil)))
      (pss_one (ps_ret (pe_dget hu (pe_ix ix_list (pe_fld (pv 0) rfl) (pv 2) (fun _ _ => rfl)) (pv 1) (fun _ _ => rfl)))))), ?_⟩
    obtain ⟨td, htd⟩ := D.tdk hi
    obtain ⟨kv, a1, a2⟩ := D.tk i td htd
    obtain ⟨us, u1, u2, u3⟩ := D.sec
    have nf : ∀ {m : Str}, (¬ m = "_sections") → (¬ m = "_paces") → (¬ m = "_ticks") → (¬ m = "_orders") → (¬ m = "_leaders") → (df5 W.sc W.pd W.lt W.lo W.ll).lookup m = none := fun a b c d e => df5_no _ _ _ _ _ a b c d e
    refine ⟨_, rfl, p, W.dx, _, rfl, D.ins, nf (by decide +kernel) (by decide +kernel) (by decide +kernel) (by decide +kernel) (by decide +kernel), _, rfl, p, secs, cars, n, rfl, ⟨H0, W, D⟩, hn, ?_⟩
    rcases hpl with ⟨rfl, rfl⟩ | rfl
    · refine ⟨_, rfl, _, rfl, ?_⟩
      rw [show decide (V.non = V.non) = true by simp]
      refine iteT ?_
      refine ⟨_, rfl, p, C, W.dx, _, _, rfl, D.ins, R.cl, R.nS, df5_sections _ _ _ _ _, W.sc, _, rfl, .inr (SqT.of u1), ?_⟩
      rw [List.length_map, u2]
      refine ⟨_, rfl, p, W.dx, _, rfl, D.ins, nf (by decide +kernel) (by decide +kernel) (by decide +kernel) (by decide +kernel) (by decide +kernel), _, rfl, p, secs, cars, secs.length, rfl, ⟨H0, W, D⟩, hi, ?_⟩
      refine ⟨_, rfl, p, C, W.dx, _, _, rfl, D.ins, R.cl, R.nT, df5_ticks _ _ _ _ _, _, rfl, W.lt, _, _, .ref td, rfl, rfl, SqL.of D.lt, atI_nat (map_at V.ref htd), ?_⟩
      exact ⟨_, rfl, td, _, rfl, gk a1 (a2 n hn), k⟩
    · refine ⟨_, rfl, _, rfl, ?_⟩
      rw [show decide (V.int ((i : Nat) : Int) = V.non) = false by simp]
      refine iteF ?_
      refine ⟨_, rfl, p, W.dx, _, rfl, D.ins, nf (by decide +kernel) (by decide +kernel) (by decide +kernel) (by decide +kernel) (by decide +kernel), _, rfl, p, secs, cars, i, rfl, ⟨H0, W, D⟩, hi, ?_⟩
      refine ⟨_, rfl, p, C, W.dx, _, _, rfl, D.ins, R.cl, R.nT, df5_ticks _ _ _ _ _, _, rfl, W.lt, _, _, .ref td, rfl, rfl, SqL.of D.lt, atI_nat (map_at V.ref htd), ?_⟩
      exact ⟨_, rfl, td, _, rfl, gk a1 (a2 n hn), k⟩
end
end Sl


set_option Elab.async false
set_option linter.all false
set_option maxRecDepth 100000
set_option maxHeartbeats 1000000
/-! for and if within a generator's body. -/
namespace OwnR
open PySem PySem.Spec PyProof.Rows L2 GenW
section
variable {X : Cx}
def tGIf (c : TT) (a b : TGn) : TGn := fun D ys σ H => c σ H fun d H1 => if d = true then a D ys σ H1 else b D ys σ H1
theorem gs_if {test : Expr} {a b : List Stmt} {pos : Pos} {tc : TT} {ta tb : TGn} (hc : PT X test tc) (ha : GSs X a ta) (hb : GSs X b tb) : GS X (.If test a b pos) (tGIf tc ta tb) := by
  refine ⟨fun A S ip R n ys s₀ c fs K J gd lv s σ H D g hn k hI ht => ?_⟩
  obtain ⟨acc, cc, r, I⟩ := hI
  rw [exec_If]
  refine seg_bind_wrap (wpAny_standAt ?_)
  refine seg_bind_wrap ?_
  rw [g.over]
  refine wpAny_mono (hc.run _ s σ H _ I ht) (fun d s' hd => ?_) fun x s' hx => k.exc n s₀ x s' hx
  obtain ⟨H2, I2, q2⟩ := hd
  cases d with
  | true => exact ha.run A S ip R n ys s₀ c fs K J gd lv s' σ H2 D g hn k ⟨acc, cc, r, I2⟩ q2
  | false => exact hb.run A S ip R n ys s₀ c fs K J gd lv s' σ H2 D g hn k ⟨acc, cc, r, I2⟩ q2
end
section
variable {prog : Program} {w : World} {A : Around} {R : GenEnd} {Y : Protocol} {n : Nat} {s₀ : Shared} {fs : List Frame} {s : Shared} {env : Env}
abbrev noteE (env : Env) (e : Value) : Sem PySem.Fin := (do noteFrame e env; theTreesLotGoes e : Sem Unit).wrap (fun _ => .raise e) .raise id id
theorem seg_forTurn {tg : Expr} {it : Value} {body : List Stmt}
    (h : wpAny (model prog w) (A.over (.forLoop tg it body [] env) fs) (pyNext it) (fun r s1 => match r with
        | none => Seg (model prog w) A R Y n s₀ (.forLoop tg it body [] env) (.pure (.again (.block [] env))) fs s1
        | some v => wpAny (model prog w) (A.over (.forLoop tg it body [] env) fs) (letOwnedTupleGo tg it v) (fun _ s2 => wpAny (model prog w) (A.over (.forLoop tg it body [] env) fs) (assign tg env v) (fun _ s3 =>
            Seg (model prog w) A R Y n s₀ (.forLoop tg it body [] env) ((execs body env).wrap (fun f => match f with
              | .next | .cont => .pure (.again (.forLoop tg it body [] env))
              | .brk => .pure (.done .next)
              | .ret v => .pure (.done (.ret v))) (noteE env) id id) fs s3)
            (fun x s' => Seg (model prog w) A R Y n s₀ (.forLoop tg it body [] env) (noteE env x) fs s') s2)
          (fun x s' => Seg (model prog w) A R Y n s₀ (.forLoop tg it body [] env) (noteE env x) fs s') s1)
      (fun x s' => Seg (model prog w) A R Y n s₀ (.forLoop tg it body [] env) (noteE env x) fs s') s) :
    Seg (model prog w) A R Y n s₀ (.forLoop tg it body [] env) ((model prog w).den (.forLoop tg it body [] env)) fs s := by
  have ee : ∀ x s', Seg (model prog w) A R Y n s₀ (.forLoop tg it body [] env) (noteE env x) fs s' → Seg (model prog w) A R Y n s₀ (.forLoop tg it body [] env) ((do noteFrame x env; theTreesLotGoes x : Sem Unit).bind fun _ => (.raise x : Sem PySem.Fin)) fs s' := fun x s' hx => by
    rw [Sem.bind_eq_wrap]
    exact hx
  show Seg _ A R Y n s₀ _ ((forTurn tg it body [] env).onRaise (fun x => do noteFrame x env; theTreesLotGoes x)) fs s
  unfold forTurn
  rw [Sem.onRaise_eq_wrap]
  refine seg_bind_wrap (wpAny_standAt ?_)
  refine seg_bind_wrap (wpAny_onRaise (wpAny_mono h (fun r s1 h1 => ?_) fun x s' hx => wpAny_standAt (ee x s' hx)))
  cases r with
  | none => exact h1
  | some v =>
    refine seg_bind_wrap (wpAny_mono h1 (fun _ s2 h2 => ?_) fun x s' hx => ee x s' hx)
    refine seg_bind_wrap (wpAny_mono h2 (fun _ s3 h3 => ?_) fun x s' hx => ee x s' hx)
    rw [Sem.bind_eq_wrap', Sem.wrap_wrap]
    rw [Sem.wrap_congr (execs body env) _ _ (K' := fun f => match f with
            | .next | .cont => .pure (.again (.forLoop tg it body [] env))
            | .brk => .pure (.done .next)
            | .ret v => .pure (.done (.ret v))) (H' := noteE env)
        (fun f => by cases f <;> rfl)
        (fun e => by first | exact Sem.bind_eq_wrap _ _ | (show (do noteFrame e env; theTreesLotGoes e : Sem Unit).bind (fun _ => .raise e) = _; rw [Sem.bind_eq_wrap]))]
    exact h3
end
section
variable {X : Cx}
def tGFor (wi : TI) (g : TG) (tb : TGn) : TGn := fun D ys σ H => wi σ H fun J H1 => ∃ W : Nat → Nat → List V → L2.St → Hp → Prop, (∃ m, W 0 m ys σ H1) ∧ ∀ i m ys σ H, W i m ys σ H →
  (J.stop i H ∧ D.nx ys σ H) ∨ (J.go i H ∧ ∃ N : List V → L2.St → Hp → Prop, (∀ ys' σ' H', N ys' σ' H' → ∃ m', m' < m ∧ W (i + 1) m' ys' σ' H') ∧ ∀ x H', J.yld i H x H' → g x σ H' fun σ2 H2 => tb { D with nx := N, ct := N, bk := D.nx } ys σ2 H2)
theorem gi_fewer {S : Addr} {ip pl : List (Addr × Obj)} {ys : List V} {σ : L2.St} {H : Hp} {s : Shared} (h : GI X S (ip ++ pl) ys σ H s) : GI X S ip ys σ H s := by
  obtain ⟨acc, c, r, I⟩ := h
  exact ⟨acc, c, r, Inv.unpinned (pins := (S, lstObj acc c) :: ip) (pl := pl) I⟩
theorem gs_for {tg iter : Expr} {body : List Stmt} {wi : TI} {g : TG} {tb : TGn} {pos : Pos} (hp : PassesOwn (model X.prog X.w) X.A X.env X.xe) (hc : X.calm = true) (hi : PI X tg iter wi) (hg : PG X tg g) (hb : GSs X body tb)
    (hs : ∀ x, foldedSetIterable iter X.env x = pure x := by intro _; rfl) : GS X (.For tg iter body [] pos) (tGFor wi g tb) := by
  refine ⟨fun A S ip R n ys s₀ c fs K J gd lv s σ H D gc hn k hI ht => ?_⟩
  obtain ⟨acc, cc, r, I⟩ := hI
  rw [exec_For]
  refine seg_bind_wrap (wpAny_standAt ?_)
  refine seg_bind_wrap ?_
  rw [gc.over]
  refine wpAny_mono (hi.run _ s σ H _ I ht) (fun v s1 h1 => ?_) fun x s' hx => k.exc n s₀ x s' hx
  refine seg_bind_wrap (wpAny_of_eq (hs v) ?_)
  refine seg_bind_wrap (wpAny_standAt ?_)
  refine seg_bind_wrap (wpAny_holding ?_)
  rw [gc.over]
  refine wpAny_mono h1 (fun itv s2 h2 => ?_) fun x s' hx => k.exc n s₀ x s' hx
  obtain ⟨it, fp, tn, J', H2, e, I2, T, st2, f2, W, ⟨m0, w0⟩, turn⟩ := h2
  subst e
  refine seg_call fun p => ?_
  have gl := fun (kk : Result → Sem PySem.Fin) => gc_loop (k := kk) (c' := .forLoop tg (.ref it) body [] X.env) (l := lv []) (kp := []) (p := p) gc rfl rfl
  have glb := fun (kk : Result → Sem PySem.Fin) => gc_loop (k := kk) (c' := .block [] X.env) (l := lv []) (kp := []) (p := p) gc rfl rfl
  have nS : ∀ b ∈ fp, b ≠ S := fun b hb => ((f2 b hb).2.2.2.2.2 (S, lstObj acc cc) (List.mem_append_right _ List.mem_cons_self)).symm
  have stat : ∀ {H' : Hp} {a2 : Array Value} {c2 : Nat}, (∀ b ∈ fp, H' b = none) → ∀ b ∈ fp, FpOk X ((S, lstObj a2 c2) :: ip) H' b := fun hn b hb => by
    obtain ⟨_, q1, q2, q3, q4, q5⟩ := f2 b hb
    refine ⟨hn b hb, q1, q2, q3, q4, fun p hp => ?_⟩
    rcases List.mem_append.mp hp with z | z
    · exact q5 p (List.mem_append_left _ z)
    · rcases List.mem_cons.mp z with z | z
      · rw [z]
        exact (nS b hb).symm
      · exact q5 p (List.mem_append_right _ (List.mem_cons_of_mem _ z))
  have loop : ∀ (m i n : Nat) (ys : List V) (s₀ s : Shared) (σ : L2.St) (H : Hp), n + ys.length = sizeLine → W i m ys σ H → GI X S ip ys σ H s → tn i s.heap → (∀ b ∈ fp, H b = none) →
      Seg (model X.prog X.w) A R (GY X S) n s₀ (.forLoop tg (.ref it) body [] X.env) ((model X.prog X.w).den (.forLoop tg (.ref it) body [] X.env))
        (.ret (fun r => ((match r with | .ok f => (.pure f : Sem Flow) | .error e => .raise e).onRaise (cameBack X.env)).wrap K J gd lv) none (gd false) (lv []) c p [] :: fs) s := by
    intro m
    induction m using Nat.strongRecOn with
    | ind m ih =>
      intro i n ys s₀ s σ H hn w hI st fr
      have ee : ∀ (n : Nat) (s₀ : Shared) (x : Value) (s' : Shared), X.xe x s' → Seg (model X.prog X.w) A R (GY X S) n s₀ (.forLoop tg (.ref it) body [] X.env) (noteE X.env x)
          (.ret (fun r => ((match r with | .ok f => (.pure f : Sem Flow) | .error e => .raise e).onRaise (cameBack X.env)).wrap K J gd lv) none (gd false) (lv []) c p [] :: fs) s' := fun n s₀ x s' hx => by
        refine seg_wrap ?_
        rw [(gl _).over]
        refine wpAny_bind (wpAny_mono (hp x s' hx) (fun _ s'' hcb => wpAny_theTreesLotGoes ?_) fun y s'' hcb => ?_)
        · exact seg_leaf (.error x) (seg_cameBack gc k hcb)
        · exact seg_leaf (.error y) (seg_cameBack gc k hcb)
      refine seg_forTurn ?_
      rw [(gl _).over]
      obtain ⟨acc, cc, r, I⟩ := hI
      rcases turn i m ys σ H w with ⟨stop, qn⟩ | ⟨go, N, hN, step⟩
      · refine wpAny_mono (T.done X rfl rfl rfl hc i _ s σ H X.xe I (stat fr) st stop) (fun r s4 ⟨hr, I4⟩ => ?_) fun x s' hx => ee n s₀ x s' hx
        subst hr
        refine seg_again rfl ?_
        exact seg_leaf (.ok .next) (k.ok n ys s₀ s4 .next hn ⟨σ, H, ⟨acc, cc, r, I4⟩, qn⟩)
      · refine wpAny_mono (T.item X rfl rfl rfl hc i _ s σ H X.xe I (stat fr) st go) (fun r0 s4 ⟨u, hr, h4⟩ => ?_) fun x s' hx => ee n s₀ x s' hx
        subst hr
        refine wpAny_mono h4 (fun _ s5 ⟨x, H5, I5, r5, y5, st5, fr5⟩ => ?_) fun x s' hx => ee n s₀ x s' hx
        have I5' := I5.pinned (stat fr5) (T.obj _ _ st5)
        refine wpAny_mono (hg.run _ s5 σ H5 x u _ I5' r5 (step x H5 y5)) (fun _ s6 ⟨σ6, H6, I6, q6⟩ => ?_) fun x s' hx => ee n s₀ x s' hx
        have gl2 : GC X S (ip ++ pinsAt fp s5.heap) A (.forLoop tg (.ref it) body [] X.env) (.ret (fun r => ((match r with | .ok f => (.pure f : Sem Flow) | .error e => .raise e).onRaise (cameBack X.env)).wrap K J gd lv) none (gd false) (lv []) c p [] :: fs) id :=
          { gl _ with ip := fun q hq => (List.mem_append.mp hq).elim (fun z => gc.ip q z) fun z => nS _ (of_pinsAt z).1 }
        have again : ∀ {n' : Nat} {ys' : List V} {s₀' s7 : Shared} {σ7 : L2.St} {H7 : Hp}, n' + ys'.length = sizeLine → GI X S (ip ++ pinsAt fp s5.heap) ys' σ7 H7 s7 → N ys' σ7 H7 →
            Seg (model X.prog X.w) A R (GY X S) n' s₀' (.forLoop tg (.ref it) body [] X.env) (.pure (.again (.forLoop tg (.ref it) body [] X.env)))
              (.ret (fun r => ((match r with | .ok f => (.pure f : Sem Flow) | .error e => .raise e).onRaise (cameBack X.env)).wrap K J gd lv) none (gd false) (lv []) c p [] :: fs) s7 := fun {n' ys' s₀' s7 σ7 H7} hn' G7 n7 => by
          obtain ⟨m', hm, w7⟩ := hN ys' σ7 H7 n7
          obtain ⟨acc7, c7, r7, I7⟩ := id G7
          refine seg_again rfl (ih m' hm (i + 1) n' ys' s₀' s7 σ7 H7 hn' w7 (gi_fewer G7) (T.keep _ _ _ st5 fun b hb o e => ?_) fun b hb => ?_)
          · exact (I7.pin (b, o) (List.mem_append_right _ (List.mem_cons_of_mem _ (List.mem_append_right _ (mem_pinsAt hb e))))).1
          · obtain ⟨o, e, d⟩ := T.obj _ _ st5 b hb
            exact (I7.pin (b, o) (List.mem_append_right _ (List.mem_cons_of_mem _ (List.mem_append_right _ (mem_pinsAt hb e))))).2.1
        refine hb.run A S (ip ++ pinsAt fp s5.heap) R n ys s₀ _ _ _ _ id id s6 σ6 H6 { D with nx := N, ct := N, bk := D.nx } gl2 hn ⟨fun n' ys' s₀' s7 f hn' hs => ?_, fun n' s₀' x s7 hx => ee n' s₀' x s7 hx⟩ ⟨acc, cc, r, I6⟩ q6
        cases f with
        | next => obtain ⟨σ7, H7, G7, n7⟩ := hs; exact again hn' G7 n7
        | cont => obtain ⟨σ7, H7, G7, n7⟩ := hs; exact again hn' G7 n7
        | brk => obtain ⟨σ7, H7, G7, q7⟩ := hs; exact seg_leaf (.ok .next) (k.ok n' ys' s₀' s7 .next hn' ⟨σ7, H7, (gi_fewer G7), q7⟩)
        | ret v => obtain ⟨x7, σ7, H7, G7, r7, q7⟩ := hs; exact seg_leaf (.ok (.ret v)) (k.ok n' ys' s₀' s7 (.ret v) hn' ⟨x7, σ7, H7, (gi_fewer G7), r7, q7⟩)
  exact loop m0 0 n ys s₀ s2 σ H2 hn w0 ⟨acc, cc, r, I2⟩ st2 fun b hb => (f2 b hb).1
/-- over any walk -/
theorem gfor_it {J : It} {n : Nat} {G : Hp → Prop} {Y : Nat → Hp → V → Hp → Prop} (w : Walk J n G Y) {g : TG} {tb : TGn} {D : GEnds} {ys : List V} {σ : L2.St} {H : Hp} (Pv : Nat → List V → L2.St → Hp → Prop) (h0 : Pv 0 ys σ H) (hG : ∀ i ys σ H, i ≤ n → Pv i ys σ H → G H)
    (hs : ∀ i x ys σ H H', i < n → Pv i ys σ H → Y i H x H' → g x σ H' fun σ2 H2 => tb { D with nx := Pv (i + 1), ct := Pv (i + 1), bk := D.nx } ys σ2 H2) (hd : ∀ ys σ H, Pv n ys σ H → D.nx ys σ H) :
    ∃ W : Nat → Nat → List V → L2.St → Hp → Prop, (∃ m, W 0 m ys σ H) ∧ ∀ i m ys σ H, W i m ys σ H →
      (J.stop i H ∧ D.nx ys σ H) ∨ (J.go i H ∧ ∃ N : List V → L2.St → Hp → Prop, (∀ ys' σ' H', N ys' σ' H' → ∃ m', m' < m ∧ W (i + 1) m' ys' σ' H') ∧ ∀ x H', J.yld i H x H' → g x σ H' fun σ2 H2 => tb { D with nx := N, ct := N, bk := D.nx } ys σ2 H2) := by
  refine ⟨fun i m ys σ H => m = n - i ∧ i ≤ n ∧ Pv i ys σ H, ⟨n, by simp, Nat.zero_le _, h0⟩, ?_⟩
  rintro i m ys σ H ⟨rfl, hi, p⟩
  have q := hG i ys σ H hi p
  by_cases hlt : i < n
  · exact .inr ⟨w.goes i H hlt q, Pv (i + 1), fun ys' σ' H' p' => ⟨n - (i + 1), by omega, rfl, hlt, p'⟩, fun x H' y => hs i x ys σ H H' hlt p (w.yields i H x H' hlt q y)⟩
  · have e : i = n := by omega
    subst e
    exact .inl ⟨w.stops H q, hd ys σ H p⟩
end
end OwnR

set_option Elab.async false
set_option linter.all false
set_option maxRecDepth 100000
set_option maxHeartbeats 1000000
namespace Sl
open PySem PySem.Spec L2 OwnR LamX
/-! ### overtakings -/
def posL (n : Str) : List Str → Nat
  | [] => 0
  | a :: r => if a = n then 0 else posL n r + 1
theorem posL_at {n : Str} : ∀ {l : List Str}, n ∈ l → l[posL n l]? = some n
  | a :: r, h => by
    unfold posL
    by_cases e : a = n
    · rw [if_pos e, e]
      rfl
    · rw [if_neg e]
      have hm : n ∈ r := (List.mem_cons.mp h).elim (fun z => absurd z.symm e) id
      have := posL_at hm
      simpa using this
theorem posL_not {n : Str} : ∀ {l : List Str} {m : Nat} {z : Str}, l[m]? = some z → m < posL n l → z ≠ n
  | a :: r, m, z, h, hm => by
    unfold posL at hm
    by_cases e : a = n
    · rw [if_pos e] at hm
      omega
    · rw [if_neg e] at hm
      cases m with
      | zero =>
        have : a = z := by simpa using h
        rw [← this]
        exact e
      | succ m => exact posL_not (l := r) (m := m) (by simpa using h) (by omega)
abbrev OvT := Nat × Str × Str
def ovIn (after : List Str) (k i : Nat) (n : Str) (l : List Str) : List OvT := (l.filter fun o => decide (o ∈ after.drop (i + 1))).map fun o => (k, n, o)
def ovMid (before after : List Str) (k i : Nat) : List OvT := match after[i]? with
  | some n => ovIn after k i n (before.take (posL n before))
  | none => []
def ovSec (before after : List Str) (k i : Nat) : List OvT := (List.range i).flatMap (ovMid before after k)
def ovAll (secs : List Sec) (cars : List Car) (i : Nat) : List OvT := (List.range i).flatMap fun k => ovSec (plcC secs cars k).ord (plcC secs cars (k + 1)).ord k cars.length
theorem ovIn_snoc (after : List Str) (k i : Nat) (n : Str) (l : List Str) (o : Str) : ovIn after k i n (l ++ [o]) = ovIn after k i n l ++ (if o ∈ after.drop (i + 1) then [(k, n, o)] else []) := by
  unfold ovIn
  rw [List.filter_append, List.map_append]
  by_cases h : o ∈ after.drop (i + 1)
  · rw [if_pos h]
    simp [h]
  · rw [if_neg h]
    simp [h]
theorem ovSec_succ (before after : List Str) (k i : Nat) : ovSec before after k (i + 1) = ovSec before after k i ++ ovMid before after k i := by
  unfold ovSec
  rw [List.range_succ, List.flatMap_append]
  simp
theorem ovAll_succ (secs : List Sec) (cars : List Car) (i : Nat) : ovAll secs cars (i + 1) = ovAll secs cars i ++ ovSec (plcC secs cars i).ord (plcC secs cars (i + 1)).ord i cars.length := by
  unfold ovAll
  rw [List.range_succ, List.flatMap_append]
  simp
theorem ovIn_len (after : List Str) (k i : Nat) (n : Str) (l : List Str) : (ovIn after k i n l).length ≤ l.length := by
  unfold ovIn
  rw [List.length_map]
  exact List.length_filter_le _ _
theorem ovMid_len {before : List Str} (after : List Str) (k i : Nat) {b : Nat} (h : before.length ≤ b) : (ovMid before after k i).length ≤ b := by
  unfold ovMid
  split
  · refine Nat.le_trans (ovIn_len _ _ _ _ _) ?_
    rw [List.length_take]
    omega
  · exact Nat.zero_le _
theorem ovSec_len {before : List Str} (after : List Str) (k : Nat) {b : Nat} (h : before.length ≤ b) : ∀ i, (ovSec before after k i).length ≤ i * b
  | 0 => by simp [ovSec]
  | i + 1 => by
    have h1 := ovSec_len after k h i
    have h2 := ovMid_len after k i h
    rw [ovSec_succ, List.length_append, Nat.succ_mul]
    omega
theorem ovAll_len {secs : List Sec} {cars : List Car} (h : cars.length ≤ 10) : ∀ i, (ovAll secs cars i).length ≤ i * 100
  | 0 => by simp [ovAll]
  | i + 1 => by
    have h1 := ovAll_len (secs := secs) h i
    have h2 : (ovSec (plcC secs cars i).ord (plcC secs cars (i + 1)).ord i cars.length).length ≤ cars.length * 10 := ovSec_len _ _ (by
      rw [(plcC_perm secs cars i).length_eq]
      unfold names
      rw [List.length_map]
      exact h) _
    rw [ovAll_succ, List.length_append, Nat.succ_mul]
    omega
def ovV (q : OvT) : List V := [.int (q.1 : Nat), .str q.2.1, .str q.2.2]
def OvAt (H : Hp) (ys : List V) (l : List OvT) : Prop := ys.length = l.length ∧ ∀ (j : Nat) (y : V) (q : OvT), ys[j]? = some y → l[j]? = some q → ∃ t, y = .ref t ∧ H t = some (.tup (ovV q))
theorem OvAt.keep {H H' : Hp} {ys : List V} {l : List OvT} (h : OvAt H ys l) (e : Same H H') : OvAt H' ys l := ⟨h.1, fun j y q e1 e2 => let ⟨t, z1, z2⟩ := h.2 j y q e1 e2; ⟨t, z1, e _ _ z2⟩⟩
theorem OvAt.more {H : Hp} {ys : List V} {l : List OvT} {q : OvT} {t : Addr} (h : OvAt H ys l) (e : H t = some (.tup (ovV q))) : OvAt H (ys ++ [.ref t]) (l ++ [q]) := by
  refine ⟨by rw [List.length_append, List.length_append, h.1]; rfl, fun j y p e1 e2 => ?_⟩
  rcases snoc_get e1 with e1 | ⟨hj, rfl⟩
  · have hj := (List.getElem?_eq_some_iff.mp e1).1
    rw [List.getElem?_append_left (by rw [← h.1]; exact hj)] at e2
    exact h.2 j y p e1 e2
  · rcases snoc_get e2 with e2 | ⟨_, rfl⟩
    · have := (List.getElem?_eq_some_iff.mp e2).1
      rw [h.1] at hj
      omega
    · exact ⟨t, rfl, e⟩
theorem cut_to {l : List V} {k : Nat} (h : k ≤ l.length) : cutV l none (some (k : Nat)) = l.take k := by
  unfold cutV
  have e : HT.sIx l.length l.length (some ((k : Nat) : Int)) = k := by
    show (if ((k : Nat) : Int) < 0 then (((k : Nat) : Int) + ((l.length : Nat) : Int)).toNat else min (((k : Nat) : Int)).toNat l.length) = k
    rw [if_neg (by omega)]
    omega
  have e0 : HT.sIx l.length 0 none = 0 := rfl
  rw [e, e0]
  simp
theorem cut_from {l : List V} {k : Nat} (h : k ≤ l.length) : cutV l (some (k : Nat)) none = l.drop k := by
  unfold cutV
  have e : HT.sIx l.length 0 (some ((k : Nat) : Int)) = k := by
    show (if ((k : Nat) : Int) < 0 then (((k : Nat) : Int) + ((l.length : Nat) : Int)).toNat else min (((k : Nat) : Int)).toNat l.length) = k
    rw [if_neg (by omega)]
    omega
  have e0 : HT.sIx l.length l.length none = l.length := rfl
  rw [e, e0]
  apply List.take_of_length_le
  rw [List.length_drop]
  exact Nat.le_refl _
section
variable {P : Program} {w : World} {K : PySem.W.Frag} {mg : Str → Option Value} {base : Heap}
end
end Sl

set_option Elab.async false
set_option linter.all false
set_option maxRecDepth 100000
set_option maxHeartbeats 1000000
namespace Sl
open PySem PySem.Spec L2 OwnR LamX
/-! ### losses -/
def unitsN (secs : List Sec) : Nat := (secs.map (·.2)).sum
def lossOf (secs : List Sec) (cars : List Car) (c : Car) : Int := (plcC secs cars secs.length).tk c.name - startOf cars c.name - c.pace * ((unitsN secs : Nat) : Int)
def lossK (secs : List Sec) (cars : List Car) : List (Key × V) := cars.map fun c => (Sum.inr c.name, V.int (lossOf secs cars c))
theorem sum_int : ∀ l : List Nat, (l.map fun n => ((n : Nat) : Int)).sum = ((l.sum : Nat) : Int)
  | [] => rfl
  | a :: r => by
    rw [List.map_cons, List.sum_cons, List.sum_cons, sum_int r]
    omega
theorem gkR {H : Hp} {a : Addr} {kvs : List (Key × V)} {n : Str} {v : V} (e : Rd H a (.dK kvs)) (h : valV kvs (Sum.inr n : Key) = some v) : DGet H a (.str n) (some v) := .inl ⟨kvs, Sum.inr n, e, rfl, h.symm⟩
section
variable {P : Program} {w : World} {K : PySem.W.Frag} {mg : Str → Option Value} {base : Heap}
def spLosses (C : Addr) : Sp := fun vs H Q _ => ∃ (p : Addr) (secs : List Sec) (cars : List Car), vs = [.ref p] ∧ DA C H p secs cars ∧ CarsOk cars ∧ secs.length ≤ 12 ∧ ∀ H' d, Same H H' → H d = none → H' d = some (.dK (lossK secs cars)) → Q (.ref d) H'
def nLosses : List Str := ["self", "units", "starts", "arrivals", "kind", "length", "name", "pace"]
theorem scLosses : FnScope nLosses ["self"] (defScope sDLosses) := ⟨rfl, rfl, rfl, by decide +kernel, rfl, by decide +kernel, by decide +kernel⟩
theorem ok_losses {f C : Addr} {fd : FuncData} (F : Fun K "losses" "Drive.losses" sDLosses f fd) (M : Mg mg) (R : DriveT K mg C) : FnOk P w K mg base CX0 1 f fd ["self"] (spLosses C) := by
  refine F.ok scLosses (fun vs H Q E h => ?_) (fun cdv A outer s H vs Q E hr h => ?_)
  · obtain ⟨p, secs, cars, rfl, _⟩ := h
    rfl
  · obtain ⟨p, secs, cars, rfl, ⟨H0, W, D⟩, CO, h12, k⟩ := h
    have nd := scLosses.nd
    have hu := hu_of hr
    refine ⟨_, pss_cons (ps_set (i := 1) nd rfl (.inr rfl) (pe_callB (cr_sum rfl) (by rfl) M.sum PyProof.Rows.boot_sum (pa_cons (pe_lc (own := [("kind", 4), ("length", 5)]) (g := gTup K 2 (gCons (gName 4) (gCons (gName 5) gNil))) (tt := tYes) (te := tVar 5) (by rfl) nd (pi_tup (pe_fld (pv 0) rfl)) (blkOk_by (N := nLosses) (sc := defScope sDLosses) (by decide +kernel))
        (fun _ _ _ _ _ => pg_tup rfl (pgs_cons (pg_name (i := 4) nd rfl (Or.inl rfl)) (pgs_cons (pg_name (i := 5) nd rfl (Or.inl rfl)) pgs_nil))) (fun _ _ _ _ _ => pts_nil) (fun _ _ _ _ _ => pv 5)) pa_nil)))
      (pss_cons (ps_set (i := 2) nd rfl (.inr rfl) (pe_ix ix_list (pe_fld (pv 0) rfl) pe_int (fun _ _ => rfl)))
      (pss_cons (ps_set (i := 3) nd rfl (.inr rfl) (pe_ix ix_list (pe_fld (pv 0) rfl) (pe_un un_neg pe_int) (fun _ _ => rfl)))
      (pss_one (ps_ret (pe_lock (pe_dc (own := [("name", 6), ("pace", 7)]) (g := gTup K 2 (gCons (gName 6) (gCons (gName 7) gNil))) (tt := tYes)
          (tk := tVar 6) (tv := tOp (rI0 fun i j => .int (i - j)) (tOp (rI0 fun i j => .int (i - j)) (tDGet (tVar 3) (tVar 6)) (tDGet (tVar 2) (tVar 6))) (tOp (rI CMul fun i j => .int (i * j)) (tVar 7) (tVar 1)))
          (by rfl) nd (pi_items (pe_fld (pv 0) rfl)) (blkOk_by (N := nLosses) (sc := defScope sDLosses) (by decide +kernel))
          (fun _ _ _ _ _ => pg_tup rfl (pgs_cons (pg_name (i := 6) nd rfl (Or.inl rfl)) (pgs_cons (pg_name (i := 7) nd rfl (Or.inl rfl)) pgs_nil))) (fun _ _ _ _ _ => pts_nil) (fun _ _ _ _ _ => pv 6)
          (fun _ _ _ _ _ => pe_op op_sub (pe_op op_sub (pe_dget hu (pv 3) (pv 6) (fun _ _ => rfl)) (pe_dget hu (pv 2) (pv 6) (fun _ _ => rfl))) (pe_op op_mul (pv 7) (pv 1))))))))), ?_⟩
    obtain ⟨us, u1, u2, u3⟩ := D.sec
    have ndn : (names cars).Nodup := CO.nd
    have e12 : (us.map V.ref).length = secs.length := by rw [List.length_map, u2]
    refine ⟨_, rfl, p, C, W.dx, _, _, rfl, D.ins, R.cl, R.nS, df5_sections _ _ _ _ _, W.sc, rfl, ⟨_, SqT.of u1⟩, fun L hL => ?_⟩
    refine lc_it walk_tup (fun i H1 => Same H H1 ∧ H1 L = some (.lst ((secs.take i).map fun s => V.int ((s.2 : Nat) : Int))))
      ⟨fun b o e => by rw [upd_ne (ne_of_none e hL)]; exact e, upd_same⟩ (fun i H1 _ ⟨k1, _⟩ => SqT.of (k1 _ _ u1)) ?_ ?_
    · rintro i y H1 H2 hi ⟨k1, hL1⟩ ⟨e, hy⟩
      subst e
      obtain ⟨t, ht, rfl⟩ : ∃ t, us[i]? = some t ∧ y = V.ref t := by
        rw [List.getElem?_map] at hy
        obtain ⟨t, z1, z2⟩ := Option.map_eq_some_iff.mp hy
        exact ⟨t, z1, z2.symm⟩
      have hic : i < secs.length := by rw [e12] at hi; exact hi
      have hc : secs[i]? = some secs[i] := List.getElem?_eq_getElem hic
      have hct := k1 _ _ (u3 i t _ ht hc)
      refine ⟨t, _, rfl, SqT.of hct, rfl, _, _, rfl, _, _, rfl, rfl, rfl, yes_of ?_⟩
      refine ⟨_, rfl, _, hL1, by rw [List.length_map, List.length_take]; exact small1000 (by omega), fun b o e => by rw [upd_ne (ne_of_none e hL)]; exact k1 _ _ e, ?_⟩
      rw [upd_same, tk1 hc, List.map_append]
      rfl
    · rintro H1 ⟨k1, hL1⟩
      rw [e12, List.take_length] at hL1
      obtain ⟨td0, htd0⟩ := D.tdk (k := 0) (Nat.zero_le _)
      obtain ⟨kv0, a0, b0⟩ := D.tk 0 td0 htd0
      obtain ⟨td, htd⟩ := D.tdk (k := secs.length) (Nat.le_refl _)
      obtain ⟨kv1, a1, b1⟩ := D.tk secs.length td htd
      refine ⟨L, secs.map fun s => ((s.2 : Nat) : Int), rfl, SqL.of (by rw [hL1, List.map_map]; rfl), ?_⟩
      have eS : (secs.map fun s => ((s.2 : Nat) : Int)).sum = ((unitsN secs : Nat) : Int) := by
        unfold unitsN
        rw [← sum_int, List.map_map]
        rfl
      rw [eS]
      refine ⟨_, rfl, p, C, W.dx, _, _, rfl, k1 _ _ D.ins, R.cl, R.nT, df5_ticks _ _ _ _ _, W.lt, _, ((0 : Nat) : Int), .ref td0, rfl, rfl, SqL.of (k1 _ _ D.lt), atI_nat (map_at V.ref htd0), ?_⟩
      refine ⟨_, rfl, p, C, W.dx, _, _, rfl, k1 _ _ D.ins, R.cl, R.nT, df5_ticks _ _ _ _ _, _, rfl, W.lt, _, _, .ref td, rfl, rfl, SqL.of (k1 _ _ D.lt), atI_lst (by rw [List.length_map, D.ltl]) (map_at V.ref htd), ?_⟩
      refine ⟨W.pd, _, k1 _ _ D.pac, True.intro, fun od => ?_⟩
      have npd : ∀ b o, H b = some o → b ≠ W.pd → upd H1 W.pd (.frz od (.dK (paceK cars))) b = some o := fun b o e n => by rw [upd_ne n]; exact k1 _ _ e
      have hpz : upd H1 W.pd (.frz od (.dK (paceK cars))) W.pd = some (.frz od (.dK (paceK cars))) := upd_same
      have nip : p ≠ W.pd := ne_of D.ins D.pac (by intro z; cases z)
      generalize upd H1 W.pd (.frz od (.dK (paceK cars))) = H2 at npd hpz ⊢
      refine ⟨_, rfl, p, C, W.dx, _, _, rfl, npd _ _ D.ins nip, R.cl, R.nP, df5_paces _ _ _ _ _, W.pd, od, _, rfl, hpz, fun Dd hDd => ?_⟩
      have nD : W.pd ≠ Dd := ne_of_none hpz hDd
      have eln : (paceK cars).length = cars.length := by unfold paceK; rw [List.length_map]
      refine dc_it walk_items (fun i H3 => (∀ b o, H b = some o → b ≠ W.pd → H3 b = some o) ∧ H3 W.pd = some (.frz od (.dK (paceK cars))) ∧ H3 Dd = some (.dK ((cars.take i).map fun c => ((Sum.inr c.name : Key), V.int (lossOf secs cars c)))))
        ⟨fun b o e n => by rw [upd_ne (ne_of_none (npd _ _ e n) hDd)]; exact npd _ _ e n, by rw [upd_ne nD]; exact hpz, upd_same⟩ (fun i H3 _ ⟨_, q, _⟩ => q) ?_ ?_
      · rintro i y H3 H4 hi ⟨k3, z3, d3⟩ ⟨T, x1, x2, rfl, hT, rfl, e1, e2⟩
        have hic : i < cars.length := by rw [eln] at hi; exact hi
        have hc : cars[i]? = some cars[i] := List.getElem?_eq_getElem hic
        have hk : (paceK cars)[i]? = some (Sum.inr cars[i].name, V.int cars[i].pace) := by unfold paceK; rw [List.getElem?_map, hc]; rfl
        have e1 : ((paceK cars)[i]?).map (fun kv => kV kv.1) = some x1 := e1
        have e2 : ((paceK cars)[i]?).map Prod.snd = some x2 := e2
        rw [hk] at e1 e2
        have e1' : x1 = V.str cars[i].name := (Option.some.inj e1).symm
        have e2' : x2 = V.int cars[i].pace := (Option.some.inj e2).symm
        subst e1' e2'
        have k4 : ∀ b o, H b = some o → b ≠ W.pd → upd H3 T (.tup [.str cars[i].name, .int cars[i].pace]) b = some o := fun b o e n => by rw [upd_ne (ne_of_none (k3 _ _ e n) hT)]; exact k3 _ _ e n
        have z4 : upd H3 T (.tup [.str cars[i].name, .int cars[i].pace]) W.pd = some (.frz od (.dK (paceK cars))) := by rw [upd_ne (ne_of_none z3 hT)]; exact z3
        have d4 : upd H3 T (.tup [.str cars[i].name, .int cars[i].pace]) Dd = some (.dK ((cars.take i).map fun c => ((Sum.inr c.name : Key), V.int (lossOf secs cars c)))) := by rw [upd_ne (ne_of_none d3 hT)]; exact d3
        refine ⟨T, _, rfl, SqT.of upd_same, rfl, _, _, rfl, _, _, rfl, rfl, rfl, ?_⟩
        generalize upd H3 T (.tup [.str cars[i].name, .int cars[i].pace]) = H5 at k4 z4 d4 ⊢
        have rd : ∀ b kv, H b = some (.dK kv) → Rd H5 b (.dK kv) := fun b kv e => by
          by_cases eb : b = W.pd
          · have : kv = paceK cars := by
              have q := D.pac
              rw [← eb, e] at q
              cases q
              rfl
            rw [this, eb]
            exact .inr ⟨_, z4⟩
          · exact .inl (k4 _ _ e eb)
        have hnm : cars[i].name ∈ names cars := List.mem_map.mpr ⟨_, List.getElem_mem hic, rfl⟩
        have pb := CO.all _ (List.getElem_mem hic)
        refine yes_of ⟨_, rfl, _, rfl, _, rfl, td, _, rfl, gkR (rd _ _ a1) (b1 _ hnm), _, rfl, _, rfl, td0, _, rfl, gkR (rd _ _ a0) (b0 _ hnm), _, _, rfl, rfl, _, rfl, _, rfl, _, _, rfl, rfl, .inl ⟨by have := pb.p0; omega, by have := pb.p1; omega⟩, _, _, rfl, rfl, ?_⟩
        refine ⟨_, Sum.inr cars[i].name, rfl, d4, by rw [List.length_map, List.length_take]; have := CO.few; exact small1000 (by omega), fun b o e n => ?_, ?_, ?_⟩
        · rw [upd_ne (fun z => ?_)]
          · exact k4 _ _ e n
          · rw [z] at e
            have q := npd _ _ e (fun y => nD (y ▸ rfl))
            rw [hDd] at q
            cases q
        · rw [upd_ne nD]
          exact z4
        · rw [upd_same]
          have := put_car (g := fun c => V.int (lossOf secs cars c)) ndn hc
          rw [← this]
          rfl
      · rintro H3 ⟨k3, z3, d3⟩
        rw [eln, List.take_length] at d3
        refine ⟨z3, k _ Dd (fun b o e => ?_) ?_ (by rw [upd_ne nD.symm]; exact d3)⟩
        · by_cases eb : b = W.pd
          · have q := D.pac
            rw [← eb, e] at q
            cases q
            rw [eb]
            exact upd_same
          · rw [upd_ne eb]
            exact k3 _ _ e eb
        · cases q : H Dd with
          | none => rfl
          | some o =>
            have := npd _ _ q nD.symm
            rw [hDd] at this
            cases this
end
end Sl

set_option Elab.async false
set_option linter.all false
set_option maxRecDepth 100000
set_option maxHeartbeats 1000000
namespace Sl
open PySem PySem.Spec L2 OwnR LamX
/-! ### the law's row of drawn numbers -/
def KeepB (r : Addr) (H H' : Hp) : Prop := ∀ b o, H b = some o → b ≠ r → H' b = some o
theorem KeepB.refl (r : Addr) (H : Hp) : KeepB r H H := fun _ _ e _ => e
theorem KeepB.trans {r : Addr} {H H1 H2 : Hp} (a : KeepB r H H1) (b : KeepB r H1 H2) : KeepB r H H2 := fun x o e n => b x o (a x o e n) n
theorem KeepB.of {r : Addr} {H H1 : Hp} (a : Same H H1) : KeepB r H H1 := fun x o e _ => a x o e
theorem KeepB.upd {r : Addr} {H : Hp} (o : HO) : KeepB r H (upd H r o) := fun x p e n => by rw [upd_ne n]; exact e
structure RowAt (K : PySem.W.Frag) (H : Hp) (r sc : Addr) (ns : List Int) : Prop where
  at_ : ∃ (a : Nat) (b c : Int), H r = some (.lst [.ref sc, .int (a : Nat), .int b, .int c])
  scr : ∀ H', KeepB r H H' → SqL K H' sc (ns.map V.int)
theorem KeepB.sqL {K : PySem.W.Frag} {r a : Addr} {H H' : Hp} {xs : List V} (k : KeepB r H H') (n : a ≠ r) (h : SqL K H a xs) : SqL K H' a xs := by
  rcases h with (h | ⟨o, h⟩) | h
  · exact .inl (.inl (k _ _ h n))
  · exact .inl (.inr ⟨o, k _ _ h n⟩)
  · exact .inr h
theorem RowAt.put {K : PySem.W.Frag} {H : Hp} {r sc : Addr} {ns : List Int} (R : RowAt K H r sc ns) (a : Nat) (b c : Int) : RowAt K (upd H r (.lst [.ref sc, .int (a : Nat), .int b, .int c])) r sc ns :=
  ⟨⟨a, b, c, upd_same⟩, fun H' k => R.scr H' ((KeepB.upd _).trans k)⟩
theorem RowAt.same {K : PySem.W.Frag} {H H' : Hp} {r sc : Addr} {ns : List Int} (R : RowAt K H r sc ns) (e : Same H H') : RowAt K H' r sc ns :=
  ⟨let ⟨a, b, c, h⟩ := R.at_; ⟨a, b, c, e _ _ h⟩, fun H2 k => R.scr H2 ((KeepB.of e).trans k)⟩
theorem RowAt.now {K : PySem.W.Frag} {H : Hp} {r sc : Addr} {ns : List Int} (R : RowAt K H r sc ns) : SqL K H sc (ns.map V.int) := R.scr H (KeepB.refl _ _)
section
variable {P : Program} {w : World} {K : PySem.W.Frag} {mg : Str → Option Value} {base : Heap}
def spTaken (K : PySem.W.Frag) : Sp := fun vs H Q _ => ∃ (r sc : Addr) (ns : List Int) (m : Nat), vs = [.ref r, .int (m : Nat)] ∧ 1 ≤ m ∧ m ≤ 1000 ∧ RowAt K H r sc ns ∧ ∀ H' (q : Nat), KeepB r H H' → RowAt K H' r sc ns → q < m → Q (.int (q : Nat)) H'
def nTaken : List Str := ["_law_row", "_law_many", "_law_found", "_law_cell"]
theorem scTaken : FnScope nTaken ["_law_row", "_law_many"] (defScope sTaken) := ⟨rfl, rfl, rfl, by decide +kernel, rfl, by decide +kernel, by decide +kernel⟩
theorem mod_nat (z : Int) {m : Nat} (h : 1 ≤ m) : ∃ q : Nat, z % (m : Int) = (q : Int) ∧ q < m := by
  have h1 := Int.emod_nonneg z (show (m : Int) ≠ 0 by omega)
  have h2 := Int.emod_lt_of_pos z (show (0 : Int) < m by omega)
  exact ⟨(z % (m : Int)).toNat, by omega, by omega⟩
theorem ok_taken {f : Addr} {fd : FuncData} (F : Fun K "_law_taken" "_law_taken" sTaken f fd) (M : Mg mg) : FnOk P w K mg base CX0 1 f fd ["_law_row", "_law_many"] (spTaken K) := by
  refine F.ok scTaken (fun vs H Q E h => ?_) (fun cdv A outer s H vs Q E hr h => ?_)
  · obtain ⟨r, sc, ns, m, rfl, _⟩ := h
    rfl
  · obtain ⟨r, sc, ns, m, rfl, h1, h1000, ⟨⟨a, b, c, hrow⟩, hsc⟩, k⟩ := h
    have nd := scTaken.nd
    refine ⟨_, pss_cons (ps_if (pt_cmpR op_gt (pe_ix ix_list (pv 0) pe_int (fun _ _ => rfl)) pe_int (nomark _))
        (pss_cons (ps_set (i := 2) nd rfl (.inl rfl) (pe_op op_mod (pe_callTy call_int1 (by rfl) M.int boot_tInt (pa_cons (pe_ix ix_list (pv 0) pe_int (fun _ _ => rfl)) pa_nil)) (pv 1)))
        (pss_cons (ps_asg (pe_op op_fdiv (pe_ix ix_list (pv 0) pe_int (fun _ _ => rfl)) (pv 1)) (pg_sub (pv 0) pe_int set_list))
        (pss_one (ps_ret (pv 2))))) pss_nil)
      (pss_cons (ps_asg (pe_op op_add (pe_ix ix_list (pv 0) pe_int (fun _ _ => rfl)) pe_int) (pg_sub (pv 0) pe_int set_list))
      (pss_cons (ps_if (pt_cmpR op_gt (pe_ix ix_list (pv 0) pe_int (fun _ _ => rfl)) (pe_callB call_len_seq (by rfl) M.len boot_len (pa_cons (pe_ix ix_list (pv 0) pe_int (fun _ _ => rfl)) pa_nil)) (nomark _))
        (pss_cons (ps_asg (pe_op op_mod (pe_callTy call_int1 (by rfl) M.int boot_tInt (pa_cons (pe_op op_add (pe_op op_mul (pe_ix ix_list (pv 0) pe_int (fun _ _ => rfl)) pe_int) pe_int) pa_nil)) pe_int) (pg_sub (pv 0) pe_int set_list))
        (pss_one (ps_ret (pe_op op_mod (pe_callTy call_int1 (by rfl) M.int boot_tInt (pa_cons (pe_op op_fdiv (pe_ix ix_list (pv 0) pe_int (fun _ _ => rfl)) pe_int) pa_nil)) (pv 1))))) pss_nil)
      (pss_cons (ps_set (i := 3) nd rfl (.inl rfl) (pe_ix ix_list (pe_ix ix_list (pv 0) pe_int (fun _ _ => rfl)) (pe_op op_sub (pe_ix ix_list (pv 0) pe_int (fun _ _ => rfl)) pe_int) (fun _ _ => rfl)))
      (pss_cons (ps_asg (pe_op op_mod (pe_callTy call_int1 (by rfl) M.int boot_tInt (pa_cons (pe_op op_add (pe_op op_add (pe_op op_mul (pe_ix ix_list (pv 0) pe_int (fun _ _ => rfl)) pe_int) (pv 3)) pe_int) pa_nil)) pe_int) (pg_sub (pv 0) pe_int set_list))
      (pss_cons (ps_asg (pe_ifExp (pt_cmpR op_ge (pv 3) (pe_op op_pow pe_int pe_int) (nomark _)) (pe_op op_fdiv (pv 3) (pv 1)) pe_int) (pg_sub (pv 0) pe_int set_list))
      (pss_one (ps_ret (pe_op op_mod (pe_callTy call_int1 (by rfl) M.int boot_tInt (pa_cons (pv 3) pa_nil)) (pv 1))))))))), ?_⟩
    have at0 : ∀ (x y z v : V), atI [x, y, z, v] 0 = some x := fun _ _ _ _ => rfl
    have at1 : ∀ (x y z v : V), atI [x, y, z, v] 1 = some y := fun _ _ _ _ => rfl
    have at2 : ∀ (x y z v : V), atI [x, y, z, v] 2 = some z := fun _ _ _ _ => rfl
    have at3 : ∀ (x y z v : V), atI [x, y, z, v] 3 = some v := fun _ _ _ _ => rfl
    have R0 : RowAt K H r sc ns := ⟨⟨a, b, c, hrow⟩, hsc⟩
    have md : ∀ z : Int, ∃ q : Nat, z % ((m : Nat) : Int) = (q : Int) ∧ q < m := fun z => mod_nat z h1
    refine ⟨_, rfl, r, _, 3, _, rfl, rfl, SqL.of hrow, at3 _ _ _ _, _, _, rfl, rfl, _, rfl, ?_⟩
    by_cases hc : 0 < c
    · rw [decide_eq_true hc]
      refine iteT ?_
      obtain ⟨q, eq, hq⟩ := md c
      refine ⟨_, rfl, r, _, 3, _, rfl, rfl, SqL.of hrow, at3 _ _ _ _, .inl ⟨c, rfl, _, rfl, _, _, rfl, rfl, by omega, ?_⟩⟩
      refine ⟨_, rfl, r, _, 3, _, rfl, rfl, SqL.of hrow, at3 _ _ _ _, _, rfl, _, _, rfl, rfl, ⟨by omega, by omega⟩, ?_⟩
      refine ⟨_, rfl, r, _, 3, 3, rfl, rfl, hrow, rfl, ?_⟩
      have z := k _ q (KeepB.upd _) (R0.put a b (c / ((m : Nat) : Int))) hq
      rw [← eq] at z
      exact ⟨_, rfl, z⟩
    · rw [decide_eq_false hc]
      refine iteF ?_
      refine ⟨_, rfl, r, _, 1, _, rfl, rfl, SqL.of hrow, at1 _ _ _ _, _, _, rfl, rfl, ?_⟩
      refine ⟨_, rfl, r, _, 1, 1, rfl, rfl, hrow, rfl, ?_⟩
      have hrow1 : upd H r (.lst ([V.ref sc, .int ((a : Nat) : Int), .int b, .int c].set 1 (.int (((a : Nat) : Int) + 1)))) r = some (.lst [V.ref sc, .int (((a + 1 : Nat)) : Int), .int b, .int c]) := by
        rw [upd_same]
        rfl
      have R1 : RowAt K (upd H r (.lst ([V.ref sc, .int ((a : Nat) : Int), .int b, .int c].set 1 (.int (((a : Nat) : Int) + 1))))) r sc ns := R0.put (a + 1) b c
      have k1 : KeepB r H (upd H r (.lst ([V.ref sc, .int ((a : Nat) : Int), .int b, .int c].set 1 (.int (((a : Nat) : Int) + 1))))) := KeepB.upd _
      show tSeq _ _ _ _ (upd H r (.lst ([V.ref sc, .int ((a : Nat) : Int), .int b, .int c].set 1 (.int (((a : Nat) : Int) + 1)))))
      generalize upd H r (.lst ([V.ref sc, .int ((a : Nat) : Int), .int b, .int c].set 1 (.int (((a : Nat) : Int) + 1)))) = H1 at hrow1 R1 k1 ⊢
      refine ⟨_, rfl, r, _, 1, _, rfl, rfl, SqL.of hrow1, at1 _ _ _ _, _, rfl, r, _, 0, _, rfl, rfl, SqL.of hrow1, at0 _ _ _ _, sc, _, rfl, .inl R1.now, _, _, rfl, rfl, _, rfl, ?_⟩
      by_cases hl : (((ns.map V.int).length : Nat) : Int) < (((a + 1 : Nat)) : Int)
      · rw [decide_eq_true hl]
        refine iteT ?_
        refine ⟨_, rfl, r, _, 2, _, rfl, rfl, SqL.of hrow1, at2 _ _ _ _, _, _, rfl, rfl, .inr ⟨by decide, by decide⟩, _, _, rfl, rfl, .inl ⟨_, rfl, _, _, rfl, rfl, (show (0 : Int) < 2147483647 by decide), ?_⟩⟩
        refine ⟨_, rfl, r, _, 2, 2, rfl, rfl, hrow1, rfl, ?_⟩
        have hrow2 : upd H1 r (.lst ([V.ref sc, .int (((a + 1 : Nat)) : Int), .int b, .int c].set 2 (.int ((b * 48271 + 11) % 2147483647)))) r = some (.lst [V.ref sc, .int (((a + 1 : Nat)) : Int), .int ((b * 48271 + 11) % 2147483647), .int c]) := by
          rw [upd_same]
          rfl
        refine ⟨_, rfl, r, _, 2, _, rfl, rfl, SqL.of hrow2, at2 _ _ _ _, _, _, rfl, rfl, ⟨by decide, by decide⟩, .inl ⟨_, rfl, _, rfl, _, _, rfl, rfl, by omega, ?_⟩⟩
        obtain ⟨q, eq, hq⟩ := md ((b * 48271 + 11) % 2147483647 / 7)
        have z := k _ q (k1.trans (KeepB.upd _)) (R1.put (a + 1) ((b * 48271 + 11) % 2147483647) c) hq
        rw [← eq] at z
        exact z
      · rw [decide_eq_false hl]
        refine iteF ?_
        rw [List.length_map] at hl
        have hal : a < ns.length := by omega
        obtain ⟨cell, hcell⟩ : ∃ z, ns[a]? = some z := ⟨_, List.getElem?_eq_getElem hal⟩
        refine ⟨_, rfl, r, _, 0, _, rfl, rfl, SqL.of hrow1, at0 _ _ _ _, _, rfl, r, _, 1, _, rfl, rfl, SqL.of hrow1, at1 _ _ _ _, _, _, rfl, rfl, sc, _, ((a : Nat) : Int), .int cell, rfl, ?_, R1.now, atI_nat (map_at V.int hcell), ?_⟩
        · show V.int ((((a + 1 : Nat)) : Int) - 1) = V.int ((a : Nat) : Int)
          congr 1
          omega
        refine ⟨_, rfl, r, _, 2, _, rfl, rfl, SqL.of hrow1, at2 _ _ _ _, _, _, rfl, rfl, .inr ⟨by decide, by decide⟩, _, rfl, _, _, rfl, rfl, _, _, rfl, rfl, .inl ⟨_, rfl, _, _, rfl, rfl, (show (0 : Int) < 2147483647 by decide), ?_⟩⟩
        refine ⟨_, rfl, r, _, 2, 2, rfl, rfl, hrow1, rfl, ?_⟩
        have hrow2 : upd H1 r (.lst ([V.ref sc, .int (((a + 1 : Nat)) : Int), .int b, .int c].set 2 (.int ((b * 48271 + cell + 11) % 2147483647)))) r = some (.lst [V.ref sc, .int (((a + 1 : Nat)) : Int), .int ((b * 48271 + cell + 11) % 2147483647), .int c]) := by
          rw [upd_same]
          rfl
        have R2 : RowAt K (upd H1 r (.lst ([V.ref sc, .int (((a + 1 : Nat)) : Int), .int b, .int c].set 2 (.int ((b * 48271 + cell + 11) % 2147483647))))) r sc ns := R1.put (a + 1) _ c
        have k2 := k1.trans (KeepB.upd (r := r) (H := H1) (.lst ([V.ref sc, .int (((a + 1 : Nat)) : Int), .int b, .int c].set 2 (.int ((b * 48271 + cell + 11) % 2147483647)))))
        show tSeq _ _ _ _ (upd H1 r (.lst ([V.ref sc, .int (((a + 1 : Nat)) : Int), .int b, .int c].set 2 (.int ((b * 48271 + cell + 11) % 2147483647)))))
        generalize upd H1 r (.lst ([V.ref sc, .int (((a + 1 : Nat)) : Int), .int b, .int c].set 2 (.int ((b * 48271 + cell + 11) % 2147483647)))) = H2 at hrow2 R2 k2 ⊢
        refine ⟨_, rfl, _, _, rfl, rfl, ⟨by decide, by decide, by decide⟩, _, _, rfl, rfl, _, rfl, ?_⟩
        obtain ⟨q, eq, hq⟩ := md cell
        by_cases hb : (10 : Int) ^ (18 : Int).toNat ≤ cell
        · rw [decide_eq_true hb]
          refine iteT ?_
          refine ⟨_, rfl, _, rfl, _, _, rfl, rfl, ⟨by omega, by omega⟩, ?_⟩
          refine ⟨_, rfl, r, _, 3, 3, rfl, rfl, hrow2, rfl, ?_⟩
          refine ⟨_, rfl, .inl ⟨_, rfl, _, rfl, _, _, rfl, rfl, by omega, ?_⟩⟩
          have z := k _ q (k2.trans (KeepB.upd _)) (R2.put (a + 1) ((b * 48271 + cell + 11) % 2147483647) (cell / ((m : Nat) : Int))) hq
          rw [← eq] at z
          exact z
        · rw [decide_eq_false hb]
          refine iteF ?_
          refine ⟨_, rfl, r, _, 3, 3, rfl, rfl, hrow2, rfl, ?_⟩
          refine ⟨_, rfl, .inl ⟨_, rfl, _, rfl, _, _, rfl, rfl, by omega, ?_⟩⟩
          have z := k _ q (k2.trans (KeepB.upd _)) (R2.put (a + 1) ((b * 48271 + cell + 11) % 2147483647) 0) hq
          rw [← eq] at z
          exact z
end
end Sl

set_option Elab.async false
set_option linter.all false
set_option maxRecDepth 100000
set_option maxHeartbeats 1000000
namespace Sl
open PySem PySem.Spec L2 OwnR LamX
/-! ### runs of random units -/
theorem rstep_same (acc : List (Bool × Nat)) (b : Bool) (n : Nat) (h : acc.getLast? = some (b, n)) : rstep acc b = acc.dropLast ++ [(b, n + 1)] := by
  unfold rstep
  rw [h]
  simp
theorem rstep_last (acc : List (Bool × Nat)) (b : Bool) : ∃ n, (rstep acc b).getLast? = some (b, n) := by
  unfold rstep
  split
  · exact ⟨1, rfl⟩
  · rename_i k n h
    split
    · rename_i e
      exact ⟨n + 1, by rw [List.getLast?_append, e]; rfl⟩
    · exact ⟨1, by rw [List.getLast?_append]; rfl⟩
theorem rstep_again (acc : List (Bool × Nat)) (b : Bool) {n : Nat} (h : acc.getLast? = some (b, n)) : (rstep acc b).length = acc.length := by
  rw [rstep_same acc b n h, List.length_append, List.length_dropLast]
  have : acc ≠ [] := fun z => by rw [z] at h; cases h
  have := List.length_pos_iff.mpr this
  simp
  omega
theorem runs_rep (b : Bool) : ∀ (n : Nat) (acc : List (Bool × Nat)) (m : Nat), acc.getLast? = some (b, m) → ((List.replicate n b).foldl rstep acc).length = acc.length
  | 0, acc, m, h => rfl
  | n + 1, acc, m, h => by
    rw [List.replicate_succ, List.foldl_cons]
    obtain ⟨q, hq⟩ := rstep_last acc b
    rw [runs_rep b n _ q hq, rstep_again acc b h]
theorem runsOf_more (bs : List Bool) (b : Bool) (n : Nat) : (runsOf (bs ++ List.replicate n b)).length ≤ (runsOf bs).length + 1 := by
  unfold runsOf
  rw [List.foldl_append]
  generalize List.foldl rstep [] bs = acc
  cases n with
  | zero => simp
  | succ n =>
    rw [List.replicate_succ, List.foldl_cons]
    obtain ⟨q, hq⟩ := rstep_last acc b
    rw [runs_rep b n _ q hq]
    exact rstep_len acc b
theorem runsOf_bound (bs : List Bool) : ∀ s ∈ runsOf bs, 1 ≤ s.2 ∧ s.2 ≤ bs.length := by
  have h : ∀ (l : List Bool) (acc : List (Bool × Nat)) (m : Nat), (∀ s ∈ acc, 1 ≤ s.2 ∧ s.2 ≤ m) → ∀ s ∈ l.foldl rstep acc, 1 ≤ s.2 ∧ s.2 ≤ m + l.length := by
    intro l
    induction l with
    | nil => intro acc m h; simpa using h
    | cons b r ih =>
      intro acc m h s hs
      have h2 : ∀ s ∈ rstep acc b, 1 ≤ s.2 ∧ s.2 ≤ m + 1 := by
        intro s hs
        unfold rstep at hs
        split at hs
        · rw [List.mem_singleton.mp hs]
          exact ⟨Nat.le_refl _, by omega⟩
        · rename_i k n e
          have he := h (k, n) (List.mem_of_getLast? e)
          split at hs
          · rcases List.mem_append.mp hs with hs | hs
            · have := h s ((List.dropLast_sublist acc).subset hs)
              omega
            · rw [List.mem_singleton.mp hs]
              exact ⟨by show 1 ≤ n + 1; omega, by show n + 1 ≤ m + 1; have := he.2; simp at this; omega⟩
          · rcases List.mem_append.mp hs with hs | hs
            · have := h s hs
              omega
            · rw [List.mem_singleton.mp hs]
              exact ⟨Nat.le_refl _, by show 1 ≤ m + 1; omega⟩
      have := ih (rstep acc b) (m + 1) h2 s hs
      rw [List.length_cons]
      omega
  have := h bs [] 0 (fun s hs => nomatch hs)
  simpa [runsOf] using this
theorem runsOf_ne {bs : List Bool} (h : bs ≠ []) : runsOf bs ≠ [] := by
  obtain ⟨r, x, rfl⟩ : ∃ r x, bs = r ++ [x] := ⟨bs.dropLast, bs.getLast h, (List.dropLast_concat_getLast h).symm⟩
  rw [runsOf_snoc]
  intro z
  obtain ⟨n, hn⟩ := rstep_last (runsOf r) x
  rw [z] at hn
  cases hn
theorem secsOk_runs {bs : List Bool} {m : Nat} (h1 : 1 ≤ bs.length) (h2 : bs.length ≤ 99) (h3 : (runsOf bs).length ≤ 12) : SecsOk (runsOf bs) :=
  ⟨runsOf_ne fun z => by rw [z] at h1; simp at h1, h3, fun s hs => let ⟨a, b⟩ := runsOf_bound bs s hs; ⟨a, by omega⟩⟩
section
variable {P : Program} {w : World} {K : PySem.W.Frag} {mg : Str → Option Value} {base : Heap}
def spUnits (K : PySem.W.Frag) : Sp := fun vs H Q _ => ∃ (r sc : Addr) (ns : List Int) (m : Nat), vs = [.ref r, .int (m : Nat)] ∧ 1 ≤ m ∧ m ≤ 12 ∧ RowAt K H r sc ns ∧
  ∀ H' (u : Str) (bs : List Bool), KeepB r H H' → RowAt K H' r sc ns → u.cps.toList = bs.map letterC → 1 ≤ bs.length → bs.length ≤ m * 6 → (runsOf bs).length ≤ m → Q (.str u) H'
def nUnits : List Str := ["_law_row", "_law_most", "_law_units_here", "_law_k"]
theorem scUnits : FnScope nUnits ["_law_row", "_law_most"] (defScope sUnits) := ⟨rfl, rfl, rfl, by decide +kernel, rfl, by decide +kernel, by decide +kernel⟩
theorem nw_at (b : Bool) : atI (("nw" : Str).cps.toList) (if b then 1 else 0) = some (letterC b) := by cases b <;> decide +kernel
theorem ok_units {f fT : Addr} {fd dT : FuncData} (F : Fun K "_law_units" "_law_units" sUnits f fd) (M : Mg mg) (BT : Fb K mg "_law_taken" sTaken ["_law_row", "_law_many"] fT dT)
    (GT : FnOk P w K mg base CX0 1 fT dT ["_law_row", "_law_many"] (spTaken K)) : FnOk P w K mg base CX0 2 f fd ["_law_row", "_law_most"] (spUnits K) := by
  refine F.ok scUnits (fun vs H Q E h => ?_) (fun cdv A outer s H vs Q E hr h => ?_)
  · obtain ⟨r, sc, ns, m, rfl, _⟩ := h
    rfl
  · obtain ⟨r, sc, ns, m, rfl, h1, h12, R0, k⟩ := h
    have nd := scUnits.nd
    refine ⟨_, pss_cons (ps_set (i := 2) nd rfl (.inl rfl) pe_str)
      (pss_cons (ps_for PassesOwn.never rfl (pi_range1 (by rfl) M.range (pa_cons (pe_op op_add pe_int (pe_call GT hr (by rfl) BT.at_ BT.fn.kp BT.bd .nil pass0 (pa_cons (pv 0) (pa_cons (pv 1) pa_nil)))) pa_nil)) (pg_name (i := 3) nd rfl (.inl rfl))
        (pss_one (ps_set (i := 2) nd rfl (.inl rfl) (pe_op op_add_str (pv 2) (pe_op op_repS (pe_ix ix_str pe_str (pe_op op_mod (pe_callTy call_int1 (by rfl) M.int boot_tInt (pa_cons (pe_op op_add (pv 3) (pe_call GT hr (by rfl) BT.at_ BT.fn.kp BT.bd .nil pass0 (pa_cons (pv 0) (pa_cons pe_int pa_nil)))) pa_nil)) pe_int) (fun _ _ => rfl))
          (pe_op op_add pe_int (pe_call GT hr (by rfl) BT.at_ BT.fn.kp BT.bd .nil pass0 (pa_cons (pv 0) (pa_cons (pe_ix ix_list (pe_lst (pa_cons pe_int (pa_cons pe_int pa_nil))) (pe_call GT hr (by rfl) BT.at_ BT.fn.kp BT.bd .nil pass0 (pa_cons (pv 0) (pa_cons pe_int pa_nil))) (fun _ _ => rfl)) pa_nil)))))))))
      (pss_one (ps_ret (pv 2)))), ?_⟩
    refine ⟨_, rfl, _, rfl, r, sc, ns, m, rfl, h1, by omega, R0, fun H1 q k1 R1 hq => ?_⟩
    refine ⟨_, _, rfl, rfl, (1 + ((q : Nat) : Int)), rfl, by omega, by omega, ?_⟩
    have en : (1 + ((q : Nat) : Int)).toNat = q + 1 := by omega
    rw [en]
    refine for_it walk_range (fun i σ H2 => ∃ (u : Str) (bs : List Bool) (v3 : Option V), σ = [some (.ref r), some (.int ((m : Nat) : Int)), some (.str u), v3] ∧ KeepB r H H2 ∧ RowAt K H2 r sc ns ∧ u.cps.toList = bs.map letterC ∧ i ≤ bs.length ∧ bs.length ≤ i * 6 ∧ (runsOf bs).length ≤ i)
      ⟨"", [], none, rfl, k1, R1, by decide +kernel, Nat.le_refl _, Nat.le_refl _, Nat.le_refl _⟩ (fun _ _ _ _ _ => True.intro) ?_ ?_
    · rintro i x σ H2 H3 hi ⟨u, bs, v3, rfl, k2, R2, hu, b1, b6, hb⟩ ⟨e, ex⟩
      have ex2 : x = V.int ((i : Nat) : Int) := by
        rw [ex]
        show V.int (0 + ((i : Nat) : Int)) = _
        rw [Int.zero_add]
      clear ex
      subst e ex2
      refine ⟨_, rfl, _, rfl, _, rfl, r, sc, ns, 2, rfl, by omega, by omega, R2, fun H4 q1 k4 R4 hq1 => ?_⟩
      obtain ⟨b, hb2⟩ : ∃ b : Bool, (((i : Nat) : Int) + ((q1 : Nat) : Int)) % 2 = if b then 1 else 0 := by
        rcases Int.emod_two_eq (((i : Nat) : Int) + ((q1 : Nat) : Int)) with z | z
        · exact ⟨false, z⟩
        · exact ⟨true, z⟩
      refine ⟨_, _, rfl, rfl, .inl ⟨_, rfl, _, _, rfl, rfl, (show (0 : Int) < 2 by decide), ("nw" : Str), _, letterC b, rfl, rfl, by decide, ?_, ?_⟩⟩
      · rw [hb2]
        exact nw_at b
      refine ⟨_, rfl, by show 2 ≤ sizeLine; decide, fun l hl => ?_⟩
      have s5 : Same H4 (upd H4 l (.lst [.int 2, .int 6])) := fun b o e => by rw [upd_ne (ne_of_none e hl)]; exact e
      have R5 := R4.same s5
      refine ⟨_, rfl, r, sc, ns, 2, rfl, by omega, by omega, R5, fun H6 q2 k6 R6 hq2 => ?_⟩
      have hl6 : H6 l = some (.lst [.int 2, .int 6]) := k6 _ _ upd_same fun z => by
        obtain ⟨a, b', c, h⟩ := R4.at_
        rw [z, h] at hl
        cases hl
      obtain ⟨m2, hm2, hm6, hat⟩ : ∃ m2 : Nat, 1 ≤ m2 ∧ m2 ≤ 6 ∧ atI [V.int 2, V.int 6] ((q2 : Nat) : Int) = some (V.int ((m2 : Nat) : Int)) := by
        have : q2 = 0 ∨ q2 = 1 := by omega
        rcases this with z | z
        · exact ⟨2, by decide, by decide, by rw [z]; rfl⟩
        · exact ⟨6, by decide, by decide, by rw [z]; rfl⟩
      refine ⟨l, _, _, _, rfl, rfl, SqL.of hl6, hat, r, sc, ns, m2, rfl, hm2, by omega, R6, fun H7 q3 k7 R7 hq3 => ?_⟩
      refine ⟨_, _, rfl, rfl, ?_⟩
      rw [letterS_eq]
      have el : (letterS b).length = 1 := by cases b <;> decide +kernel
      refine ⟨letterS b, q3 + 1, rfl, by show V.int (1 + ((q3 : Nat) : Int)) = _; congr 1; omega, by omega, by omega, by rw [el]; omega, fun z hz => ?_⟩
      have ez : z.cps.toList = (List.replicate (q3 + 1) b).map letterC := by
        rw [hz, letter_toList, List.map_replicate]
        induction (q3 + 1) with
        | zero => rfl
        | succ n ih => rw [List.replicate_succ, List.flatten_cons, ih, List.replicate_succ]; rfl
      have lu : u.length = bs.length := by
        have := congrArg List.length hu
        show u.cps.size = bs.length
        simpa using this
      have lz : z.length = q3 + 1 := by
        have := congrArg List.length ez
        show z.cps.size = q3 + 1
        simpa using this
      have hi7 : i < q + 1 := hi
      refine ⟨u, z, rfl, rfl, by rw [lu, lz]; exact Nat.le_of_lt (small1000 (by omega)), ?_⟩
      refine ⟨_, bs ++ List.replicate (q3 + 1) b, _, rfl, k2.trans (k4.trans ((KeepB.of s5).trans (k6.trans k7))), R7, ?_, by simp; omega, by simp; omega, Nat.le_trans (runsOf_more bs b (q3 + 1)) (by omega)⟩
      show ((u ++ z).cps).toList = _
      rw [List.map_append, ← hu, ← ez]
      show (u.cps ++ z.cps).toList = _
      simp
    · rintro σ H2 ⟨u, bs, v3, rfl, k2, R2, hu, b1, b6, hb⟩
      exact ⟨_, rfl, k H2 u bs k2 R2 hu (by omega) (by omega) (by omega)⟩
end
end Sl

set_option Elab.async false
set_option linter.all false
set_option maxRecDepth 100000
set_option maxHeartbeats 1000000
namespace Sl
open PySem PySem.Spec L2 OwnR LamX
/-! ### data that is compared -/
def Shp (n : Nat) (d : PyData) : Prop := d.canLay0 = true ∧ d.depth ≤ n
theorem Shp.ok {n : Nat} {d : PyData} (h : Shp n d) (hn : n ≤ 64) : SeqAt.shaped d = true := by
  unfold SeqAt.shaped
  rw [h.1, decide_eq_true (Nat.le_trans h.2 hn)]
  rfl
theorem shp_all {n : Nat} : ∀ {ds : List PyData}, (∀ d ∈ ds, Shp n d) → PyData.canLayAll0 ds = true ∧ PyData.depthAll ds ≤ n
  | [], _ => ⟨rfl, Nat.zero_le _⟩
  | d :: ds, h => by
    have h1 := h d List.mem_cons_self
    have h2 := shp_all (ds := ds) fun e he => h e (List.mem_cons_of_mem _ he)
    refine ⟨?_, ?_⟩
    · show (d.canLay0 && PyData.canLayAll0 ds) = true
      rw [h1.1, h2.1]
      rfl
    · show max d.depth (PyData.depthAll ds) ≤ n
      exact Nat.max_le.mpr ⟨h1.2, h2.2⟩
theorem shp_list {n : Nat} {ds : List PyData} (h : ∀ d ∈ ds, Shp n d) : Shp (n + 1) (.list ds) := ⟨(shp_all h).1, Nat.succ_le_succ (shp_all h).2⟩
theorem shp_tuple {n : Nat} {ds : List PyData} (h : ∀ d ∈ ds, Shp n d) : Shp (n + 1) (.tuple ds) := ⟨(shp_all h).1, Nat.succ_le_succ (shp_all h).2⟩
theorem shp_int (i : Int) : Shp 0 (.int i) := ⟨rfl, Nat.le_refl _⟩
theorem shp_non : Shp 0 .none := ⟨rfl, Nat.le_refl _⟩
theorem shp_str {x : Str} (h : PyData.strOk x = true) : Shp 0 (.str x) := ⟨h, Nat.le_refl _⟩
theorem Shp.same {n : Nat} {d : PyData} (h : Shp n d) : PyData.eqv d d = true := SeqAt.eqv_refl d h.1
theorem dp_refs {K : PySem.W.Frag} {H : Hp} {α : Type} (f : α → PyData) : ∀ {as : List Addr} {l : List α}, as.length = l.length → (∀ (i : Nat) (a : Addr) (x : α), as[i]? = some a → l[i]? = some x → Dp K H (.ref a) (f x)) → DpAll K H (as.map V.ref) (l.map f)
  | [], [], _, _ => .nil
  | a :: as, x :: l, hl, h => .cons (h 0 a x rfl rfl) (dp_refs f (by simpa using hl) fun i b y e1 e2 => h (i + 1) b y (by simpa using e1) (by simpa using e2))
theorem dp_vals {K : PySem.W.Frag} {H : Hp} {α : Type} (v : α → V) (f : α → PyData) (h : ∀ x, Dp K H (v x) (f x)) : ∀ (l : List α), DpAll K H (l.map v) (l.map f)
  | [] => .nil
  | x :: l => .cons (h x) (dp_vals v f h l)
/-- sections as data -/
def secD (s : Sec) : PyData := .tuple [.str (kindS s.1), .int (s.2 : Nat)]
def secsD (secs : List Sec) : PyData := .list (secs.map secD)
theorem kind_ok (b : Bool) : PyData.strOk (kindS b) = true := by cases b <;> decide +kernel
theorem shp_secD (s : Sec) : Shp 1 (secD s) := shp_tuple fun d hd => by
  rcases List.mem_cons.mp hd with e | hd
  · rw [e]; exact shp_str (kind_ok _)
  · rw [List.mem_singleton.mp hd]; exact shp_int _
theorem shp_secsD (secs : List Sec) : Shp 2 (secsD secs) := shp_list fun d hd => by
  obtain ⟨s, _, rfl⟩ := List.mem_map.mp hd
  exact shp_secD s
theorem dp_secV {K : PySem.W.Frag} {H : Hp} {t : Addr} {s : Sec} (h : H t = some (.tup (secV s))) : Dp K H (.ref t) (secD s) := .tup (SqT.of h) (.cons (.str _) (.cons (.int _) .nil))
theorem RunsAt.dp {K : PySem.W.Frag} {H : Hp} {a : Addr} {secs : List Sec} (h : RunsAt H a secs) : Dp K H (.ref a) (secsD secs) := by
  obtain ⟨ts, h1, h2, h3⟩ := h
  exact .lst (SqL.of h1) (dp_refs secD h2 fun i b s e1 e2 => dp_secV (h3 i b s e1 e2))
theorem RunsAt.ext {H H' : Hp} {a : Addr} {secs : List Sec} (h : RunsAt H a secs) (e : ExtN H H') : RunsAt H' a secs := by
  obtain ⟨ts, h1, h2, h3⟩ := h
  exact ⟨ts, ExtN.lst e h1, h2, fun i b s e1 e2 => ExtN.tup e (h3 i b s e1 e2)⟩
theorem shp_nil : Shp 1 (.list []) := shp_list fun d hd => nomatch hd
theorem kindS_inj (a b : Bool) : decide (V.str (kindS a) = V.str (kindS b)) = decide (a = b) := by cases a <;> cases b <;> decide +kernel
theorem ixN_last {n m : Nat} (h : n = m + 1) : ixN n (-1) = some m := by
  unfold ixN
  rw [if_neg (by omega), if_pos (by omega)]
  congr 1
  omega
theorem set_last {α : Type} (A : List α) (x v : α) {m : Nat} (h : A.length = m) : (A ++ [x]).set m v = A ++ [v] := by
  subst h
  induction A with
  | nil => rfl
  | cons a r ih => rw [List.cons_append, List.length_cons, List.set_cons_succ, ih]; rfl
theorem kindIf (b : Bool) {σ : L2.St} {H : Hp} {G : V → Hp → Prop} (h : G (.str (kindS b)) H) : if (!b) = true then tC (.str "narrow") σ H G else tC (.str "wide") σ H G := by
  cases b
  · exact h
  · exact h
section
variable {P : Program} {w : World} {K : PySem.W.Frag} {mg : Str → Option Value} {base : Heap}
def spSections : Sp := fun vs H Q _ => ∃ (u : Str) (bs : List Bool), vs = [.str u] ∧ u.cps.toList = bs.map letterC ∧ bs.length ≤ 1000 ∧ ∀ H' p, Same H H' → H p = none → RunsAt H' p (runsOf bs) → Q (.ref p) H'
def nSections : List Str := ["_law_units_here", "_law_found", "_law_sign", "_law_kind"]
theorem scSections : FnScope nSections ["_law_units_here"] (defScope sSections) := ⟨rfl, rfl, rfl, by decide +kernel, rfl, by decide +kernel, by decide +kernel⟩
theorem ok_sections {f : Addr} {fd : FuncData} (F : Fun K "_law_sections" "_law_sections" sSections f fd) (M : Mg mg) : FnOk P w K mg base CX0 1 f fd ["_law_units_here"] spSections := by
  refine F.ok scSections (fun vs H Q E h => ?_) (fun cdv A outer s H vs Q E hr h => ?_)
  · obtain ⟨u, bs, rfl, _⟩ := h
    rfl
  · obtain ⟨u, bs, rfl, hu, hlen, k⟩ := h
    have nd := scSections.nd
    have hu64 := hr.units
    refine ⟨_, pss_cons (ps_set (i := 1) nd rfl (.inl rfl) (pe_lst pa_nil))
      (pss_cons (ps_for PassesOwn.never rfl (pi_str (pv 0)) (pg_name (i := 2) nd rfl (.inl rfl))
        (pss_cons (ps_set (i := 3) nd rfl (.inl rfl) (pe_ifExp (pt_cmpR op_eq (pv 2) pe_str (nomark _)) pe_str pe_str))
        (pss_one (ps_if (PW.pt (pw_and (pt_cmpR (op_neD hu64) (pv 1) (pe_lst pa_nil) (nomark _)) (pw_and1 (pt_cmpR op_eq (pe_ix ix_tup (pe_ix ix_list (pv 1) (pe_un un_neg pe_int) (fun _ _ => rfl)) pe_int (fun _ _ => rfl)) (pv 3) (nomark _)))))
          (pss_one (ps_asg (pe_tup (pa_cons (pv 3) (pa_cons (pe_op op_add (pe_ix ix_tup (pe_ix ix_list (pv 1) (pe_un un_neg pe_int) (fun _ _ => rfl)) pe_int (fun _ _ => rfl)) pe_int) pa_nil))) (pg_sub (pv 1) (pe_un un_neg pe_int) set_list)))
          (pss_one (ps_expr (pe_bm PySem.F.plainAttrs_list PySem.F.slot_list_append PySem.F.type_list_append mt_append (pv 1) (pa_cons (pe_tup (pa_cons (pv 3) (pa_cons pe_int pa_nil))) pa_nil))))))))
      (pss_one (ps_ret (pv 1)))), ?_⟩
    refine ⟨Nat.zero_le _, fun L hL => ?_⟩
    have hsz : u.cps.size = bs.length := by
      have := congrArg List.length hu
      simpa using this
    refine ⟨_, rfl, u, rfl, for_it walk_str (fun i σ H1 => ∃ v2 v3, σ = [some (.str u), some (.ref L), v2, v3] ∧ Same H H1 ∧ RunsAt H1 L (runsOf (bs.take i)))
      ⟨none, none, rfl, fun b o e => by rw [upd_ne (ne_of_none e hL)]; exact e, [], upd_same, rfl, fun j a s e => by simp at e⟩ (fun _ _ _ _ _ => True.intro) ?_ ?_⟩
    · rintro i x σ H1 H2 hi ⟨v2, v3, rfl, s1, I⟩ ⟨e, c, hc, ex⟩
      subst e
      have hib : i < bs.length := by rw [hsz] at hi; exact hi
      obtain ⟨b, hb⟩ : ∃ b, bs[i]? = some b := ⟨_, List.getElem?_eq_getElem hib⟩
      have ecb : c = letterC b := by
        have h1 : u.cps.toList[i]? = some c := by simpa using hc
        rw [hu, List.getElem?_map, hb] at h1
        exact (Option.some.inj h1).symm
      rw [ecb, letterS_eq] at ex
      subst ex
      rw [tk1 hb, runsOf_snoc]
      have hlen2 : (runsOf (bs.take i)).length ≤ 999 := Nat.le_trans (runsOf_len _) (by rw [List.length_take]; omega)
      generalize runsOf (bs.take i) = acc at *
      refine ⟨_, rfl, rfl, _, rfl, ?_⟩
      have el : decide (V.str (letterS b) = V.str "n") = !b := by cases b <;> decide +kernel
      rw [el]
      refine kindIf b ?_
      obtain ⟨ts, hL2, hts, htv⟩ := I
      refine ⟨_, rfl, Nat.zero_le _, fun e he => ?_⟩
      have nLe : L ≠ e := ne_of_none hL2 he
      have s3 : Same H2 (upd H2 e (.lst [])) := fun b o e' => by rw [upd_ne (ne_of_none e' he)]; exact e'
      have I3 : RunsAt (upd H2 e (.lst [])) L acc := ⟨ts, s3 _ _ hL2, hts, fun i t s e1 e2 => s3 _ _ (htv i t s e1 e2)⟩
      have hL3 := s3 _ _ hL2
      have s03 := s1.trans s3
      have h3 : ∀ (i : Nat) (t : Addr) (s : Sec), ts[i]? = some t → acc[i]? = some s → upd H2 e (.lst []) t = some (.tup (secV s)) := fun i t s e1 e2 => s3 _ _ (htv i t s e1 e2)
      refine ⟨secsD acc, .list [], I3.dp, .lst (SqL.of upd_same) .nil, (shp_secsD acc).ok (by decide), shp_nil.ok (by decide), ?_⟩
      have happ : ∀ (H4 : Hp) (t : Addr), Same (upd H2 e (.lst [])) H4 → H4 t = none → RunsAt (upd (upd H4 t (.tup [.str (kindS b), .int 1])) L (.lst (ts.map V.ref ++ [.ref t]))) L (acc ++ [(b, 1)]) := fun H4 t s4 ht => by
        have nLt : L ≠ t := ne_of_none (s4 _ _ hL3) ht
        refine ⟨ts ++ [t], by rw [upd_same, List.map_append]; rfl, by rw [List.length_append, List.length_append, hts]; rfl, fun i a s e1 e2 => ?_⟩
        rcases snoc_get e1 with e1 | ⟨hi2, rfl⟩
        · have hlt := (List.getElem?_eq_some_iff.mp e1).1
          rw [List.getElem?_append_left (by rw [← hts]; exact hlt)] at e2
          have q := s4 _ _ (h3 i a s e1 e2)
          rw [upd_ne (ne_of q (s4 _ _ hL3) (by intro z; cases z)), upd_ne (ne_of_none q ht)]
          exact q
        · rcases snoc_get e2 with e2 | ⟨_, rfl⟩
          · have := (List.getElem?_eq_some_iff.mp e2).1
            omega
          · rw [upd_ne nLt.symm, upd_same]
            rfl
      cases hl : acc.getLast? with
      | none =>
        have ea : acc = [] := List.getLast?_eq_none_iff.mp hl
        subst ea
        have er : rstep [] b = [(b, 1)] := rfl
        rw [er]
        refine ⟨_, rfl, iteF ?_⟩
        refine iteF ?_
        refine ⟨_, rfl, .inl ⟨rfl, _, SqL.of hL3⟩, _, rfl, by show 2 ≤ sizeLine; decide, fun t ht => ?_⟩
        have nLt : L ≠ t := ne_of_none hL3 ht
        refine ⟨L, _, .ref t, rfl, rfl, by rw [upd_ne nLt]; exact hL3, by rw [List.length_map, hts]; exact small1000 (by simp), ?_⟩
        refine ⟨_, _, rfl, fun b' o e' => ?_, happ _ t (fun _ _ z => z) ht⟩
        rw [upd_ne (ne_of_none e' hL), upd_ne (ne_of_none (s03 _ _ e') ht)]
        exact s03 _ _ e'
      | some r =>
        obtain ⟨k', n⟩ := r
        obtain ⟨acc', ea⟩ := List.getLast?_eq_some_iff.mp hl
        subst ea
        obtain ⟨ts', t0, ets, hl'⟩ := snoc_of (l := ts) (m := acc'.length) (by rw [hts]; simp)
        subst ets
        have hL4 : upd H2 e (.lst []) L = some (.lst (ts'.map V.ref ++ [V.ref t0])) := by rw [hL3, List.map_append]; rfl
        have ht0 := h3 acc'.length t0 (k', n) (by rw [← hl']; simp) (by simp)
        refine ⟨_, rfl, ?_⟩
        rw [show (!PyData.eqv (secsD (acc' ++ [(k', n)])) (.list [])) = true by cases acc' <;> rfl]
        refine iteT ?_
        refine ⟨_, rfl, _, rfl, L, _, _, .ref t0, rfl, rfl, SqL.of hL4, atI_last _ _, t0, _, _, _, rfl, rfl, SqT.of ht0, rfl, _, rfl, rfl, _, rfl, ?_⟩
        rw [kindS_inj]
        by_cases hk : k' = b
        · rw [decide_eq_true hk]
          refine iteT ?_
          have er : rstep (acc' ++ [(k', n)]) b = acc' ++ [(k', n + 1)] := by
            unfold rstep
            rw [hl]
            simp [hk]
          rw [er]
          refine ⟨_, rfl, _, rfl, _, rfl, L, _, _, .ref t0, rfl, rfl, SqL.of hL4, atI_last _ _, t0, _, _, _, rfl, rfl, SqT.of ht0, rfl, _, _, rfl, rfl, by show 2 ≤ sizeLine; decide, fun t ht => ?_⟩
          have nLt : L ≠ t := ne_of_none hL3 ht
          refine ⟨_, rfl, _, rfl, L, _, _, ts'.length, rfl, rfl, by rw [upd_ne nLt]; exact hL4, ixN_last (by simp), ?_⟩
          rw [set_last _ _ _ (by simp)]
          refine ⟨_, _, rfl, fun b' o e' => ?_, ts' ++ [t], by rw [upd_same, List.map_append]; rfl, by simp [hl'], fun i a s e1 e2 => ?_⟩
          · rw [upd_ne (ne_of_none e' hL), upd_ne (ne_of_none (s03 _ _ e') ht)]
            exact s03 _ _ e'
          · rcases snoc_get e1 with e1 | ⟨hi2, rfl⟩
            · have hlt := (List.getElem?_eq_some_iff.mp e1).1
              rw [List.getElem?_append_left (by rw [← hl']; exact hlt)] at e2
              have q := h3 i a s (by rw [List.getElem?_append_left hlt]; exact e1) (by rw [List.getElem?_append_left (by rw [← hl']; exact hlt)]; exact e2)
              rw [upd_ne (ne_of q hL3 (by intro z; cases z)), upd_ne (ne_of_none q ht)]
              exact q
            · rcases snoc_get e2 with e2 | ⟨_, rfl⟩
              · have := (List.getElem?_eq_some_iff.mp e2).1
                omega
              · rw [upd_ne nLt.symm, upd_same, ← hk]
                rfl
        · rw [decide_eq_false hk]
          refine iteF ?_
          have er : rstep (acc' ++ [(k', n)]) b = acc' ++ [(k', n)] ++ [(b, 1)] := by
            unfold rstep
            rw [hl]
            simp [hk]
          rw [er]
          refine ⟨_, rfl, .inl ⟨rfl, _, SqL.of hL3⟩, _, rfl, by show 2 ≤ sizeLine; decide, fun t ht => ?_⟩
          have nLt : L ≠ t := ne_of_none hL3 ht
          refine ⟨L, _, .ref t, rfl, rfl, by rw [upd_ne nLt]; exact hL3, by rw [List.length_map, hts]; exact small1000 (by omega), ?_⟩
          refine ⟨_, _, rfl, fun b' o e' => ?_, happ _ t (fun _ _ z => z) ht⟩
          rw [upd_ne (ne_of_none e' hL), upd_ne (ne_of_none (s03 _ _ e') ht)]
          exact s03 _ _ e'
    · rintro σ H1 ⟨v2, v3, rfl, s1, I⟩
      rw [hsz, List.take_length] at I
      exact ⟨_, rfl, k H1 L s1 hL I⟩
end
end Sl

set_option Elab.async false
set_option linter.all false
set_option maxRecDepth 100000
set_option maxHeartbeats 1000000
namespace Sl
open PySem PySem.Spec L2 OwnR LamX
/-! ### a list of new tuples -/
def TupsAt (H : Hp) (a : Addr) (vss : List (List V)) : Prop := ∃ ts : List Addr, H a = some (.lst (ts.map V.ref)) ∧ ts.length = vss.length ∧ ∀ (i : Nat) (t : Addr) (v : List V), ts[i]? = some t → vss[i]? = some v → H t = some (.tup v)
theorem tups_push {H : Hp} {a : Addr} {ts : List Addr} {vss : List (List V)} (h1 : H a = some (.lst (ts.map V.ref))) (h2 : ts.length = vss.length) (h3 : ∀ (i : Nat) (t : Addr) (v : List V), ts[i]? = some t → vss[i]? = some v → H t = some (.tup v)) {t : Addr} (ht : H t = none) (v : List V) :
    TupsAt (upd (upd H t (.tup v)) a (.lst (ts.map V.ref ++ [.ref t]))) a (vss ++ [v]) := by
  have nat : a ≠ t := ne_of_none h1 ht
  refine ⟨ts ++ [t], by rw [upd_same, List.map_append]; rfl, by rw [List.length_append, List.length_append, h2]; rfl, fun i b s e1 e2 => ?_⟩
  rcases snoc_get e1 with e1 | ⟨hi2, rfl⟩
  · have hlt := (List.getElem?_eq_some_iff.mp e1).1
    rw [List.getElem?_append_left (by rw [← h2]; exact hlt)] at e2
    have q := h3 i b s e1 e2
    rw [upd_ne (ne_of q h1 (by intro z; cases z)), upd_ne (ne_of_none q ht)]
    exact q
  · rcases snoc_get e2 with e2 | ⟨_, rfl⟩
    · have := (List.getElem?_eq_some_iff.mp e2).1
      omega
    · rw [upd_ne nat.symm, upd_same]
theorem TupsAt.keep {H H' : Hp} {r a : Addr} {vss : List (List V)} {xs : List V} (h : TupsAt H a vss) (k : KeepB r H H') (n : a ≠ r) (hr : H r = some (.lst xs)) : TupsAt H' a vss := by
  obtain ⟨ts, h1, h2, h3⟩ := h
  exact ⟨ts, k _ _ h1 n, h2, fun i t v e1 e2 => k _ _ (h3 i t v e1 e2) (ne_of (h3 i t v e1 e2) hr (by intro z; cases z))⟩
theorem TupsAt.same {H H' : Hp} {a : Addr} {vss : List (List V)} (h : TupsAt H a vss) (k : Same H H') : TupsAt H' a vss := by
  obtain ⟨ts, h1, h2, h3⟩ := h
  exact ⟨ts, k _ _ h1, h2, fun i t v e1 e2 => k _ _ (h3 i t v e1 e2)⟩
theorem tups_nil {H : Hp} {a : Addr} (h : H a = some (.lst [])) : TupsAt H a [] := ⟨[], h, rfl, fun i t v e => by simp at e⟩
/-! ### random cars -/
def carName (k : Nat) : Str := ⟨#[97 + k]⟩
structure DrawnC (j : Nat) (c : Car) : Prop where
  nm : c.name = carName j
  s0 : 0 ≤ c.start
  s1 : c.start ≤ 60
  p0 : 1 ≤ c.pace
  p1 : c.pace ≤ 9
theorem carName_inj {i j : Nat} (h : carName i = carName j) : i = j := by
  have h1 : (carName i).cps.toList = (carName j).cps.toList := by rw [h]
  have h2 : [97 + i] = [97 + j] := h1
  have := List.cons.inj h2
  omega
theorem drawn_ok {cars : List Car} (hl : cars.length ≤ 10) (h : ∀ j c, cars[j]? = some c → DrawnC j c) : CarsOk cars := by
  have hlt : ∀ {j : Nat} {c : Car}, cars[j]? = some c → j < 10 := fun e => Nat.lt_of_lt_of_le (List.getElem?_eq_some_iff.mp e).1 hl
  refine ⟨fun c hc => ?_, ?_, hl⟩
  · obtain ⟨j, hj⟩ := List.mem_iff_getElem?.mp hc
    have d := h j c hj
    have hj10 := hlt hj
    refine ⟨?_, d.s0, by have := d.s1; omega, d.p0, by have := d.p1; omega⟩
    rw [d.nm]
    refine ⟨Nat.le_refl 1, by show 1 ≤ 8; decide, fun x hx => ?_⟩
    have hx : x ∈ [97 + j] := hx
    rw [List.mem_singleton.mp hx]
    omega
  · have : cars.map (·.name) = (List.range cars.length).map carName := by
      apply List.ext_getElem?
      intro i
      rw [List.getElem?_map, List.getElem?_map]
      by_cases hi : i < cars.length
      · have e := List.getElem?_eq_getElem hi
        rw [e, List.getElem?_range hi]
        exact congrArg some (h i _ e).nm
      · rw [List.getElem?_eq_none (by omega), List.getElem?_eq_none (by simp; omega)]
        rfl
    rw [this]
    have hn : (List.range cars.length).Nodup := List.nodup_range
    exact List.Pairwise.map _ (fun a b (h : a ≠ b) z => h (carName_inj z)) hn
section
variable {P : Program} {w : World} {K : PySem.W.Frag} {mg : Str → Option Value} {base : Heap}
def spCars (K : PySem.W.Frag) : Sp := fun vs H Q _ => ∃ (r sc : Addr) (ns : List Int) (m : Nat), vs = [.ref r, .int (m : Nat)] ∧ m ≤ 10 ∧ RowAt K H r sc ns ∧
  ∀ H' a cars, KeepB r H H' → RowAt K H' r sc ns → CarsAt H' a cars → CarsOk cars → cars.length ≤ m → Q (.ref a) H'
def nCars : List Str := ["_law_row", "_law_most", "_law_size", "_law_far", "_law_found", "_law_k"]
theorem scCars : FnScope nCars ["_law_row", "_law_most"] (defScope sCars) := ⟨rfl, rfl, rfl, by decide +kernel, rfl, by decide +kernel, by decide +kernel⟩
theorem aj_at : ∀ k : Nat, k < 10 → atI (("abcdefghij" : Str).cps.toList) ((k : Nat) : Int) = some (97 + k) := by decide +kernel
theorem ok_cars {f fT : Addr} {fd dT : FuncData} (F : Fun K "_law_cars" "_law_cars" sCars f fd) (M : Mg mg) (BT : Fb K mg "_law_taken" sTaken ["_law_row", "_law_many"] fT dT)
    (GT : FnOk P w K mg base CX0 1 fT dT ["_law_row", "_law_many"] (spTaken K)) : FnOk P w K mg base CX0 2 f fd ["_law_row", "_law_most"] (spCars K) := by
  refine F.ok scCars (fun vs H Q E h => ?_) (fun cdv A outer s H vs Q E hr h => ?_)
  · obtain ⟨r, sc, ns, m, rfl, _⟩ := h
    rfl
  · obtain ⟨r, sc, ns, m, rfl, h10, R0, k⟩ := h
    have nd := scCars.nd
    refine ⟨_, pss_cons (ps_par (i := 2) (j := 3) rfl nd rfl rfl (by decide) rfl rfl (pa_cons (pe_call GT hr (by rfl) BT.at_ BT.fn.kp BT.bd .nil pass0 (pa_cons (pv 0) (pa_cons (pe_op op_add (pv 1) pe_int) pa_nil)))
        (pa_cons (pe_ix ix_list (pe_lst (pa_cons pe_int (pa_cons pe_int (pa_cons pe_int pa_nil)))) (pe_call GT hr (by rfl) BT.at_ BT.fn.kp BT.bd .nil pass0 (pa_cons (pv 0) (pa_cons pe_int pa_nil))) (fun _ _ => rfl)) pa_nil)) (by rfl))
      (pss_cons (ps_set (i := 4) nd rfl (.inl rfl) (pe_lst pa_nil))
      (pss_cons (ps_for PassesOwn.never rfl (pi_range1 (by rfl) M.range (pa_cons (pv 2) pa_nil)) (pg_name (i := 5) nd rfl (.inl rfl))
        (pss_one (ps_expr (pe_bm PySem.F.plainAttrs_list PySem.F.slot_list_append PySem.F.type_list_append mt_append (pv 4) (pa_cons (pe_tup (pa_cons (pe_ix ix_str pe_str (pv 5) (fun _ _ => rfl))
          (pa_cons (pe_call GT hr (by rfl) BT.at_ BT.fn.kp BT.bd .nil pass0 (pa_cons (pv 0) (pa_cons (pv 3) pa_nil)))
          (pa_cons (pe_op op_add pe_int (pe_call GT hr (by rfl) BT.at_ BT.fn.kp BT.bd .nil pass0 (pa_cons (pv 0) (pa_cons (pe_ix ix_list (pe_lst (pa_cons pe_int (pa_cons pe_int pa_nil))) (pe_call GT hr (by rfl) BT.at_ BT.fn.kp BT.bd .nil pass0 (pa_cons (pv 0) (pa_cons pe_int pa_nil))) (fun _ _ => rfl)) pa_nil)))) pa_nil)))) pa_nil)))))
      (pss_one (ps_ret (pe_callTy call_tuple_of (by rfl) M.tuple boot_tTuple (pa_cons (pv 4) pa_nil)))))), ?_⟩
    refine ⟨_, rfl, _, rfl, _, _, rfl, rfl, r, sc, ns, m + 1, rfl, by omega, by omega, R0, fun H1 size k1 R1 hsize => ?_⟩
    refine ⟨by show 3 ≤ sizeLine; decide, fun l hl => ?_⟩
    have s2 : Same H1 (upd H1 l (.lst [.int 3, .int 20, .int 60])) := fun b o e => by rw [upd_ne (ne_of_none e hl)]; exact e
    have R2 := R1.same s2
    refine ⟨_, rfl, r, sc, ns, 3, rfl, by omega, by omega, R2, fun H3 q k3 R3 hq => ?_⟩
    have nlr : l ≠ r := fun z => by
      obtain ⟨a, b', c, h⟩ := R1.at_
      rw [z, h] at hl
      cases hl
    have hl3 : H3 l = some (.lst [.int 3, .int 20, .int 60]) := k3 _ _ upd_same nlr
    obtain ⟨far, hf1, hf60, hat⟩ : ∃ m2 : Nat, 1 ≤ m2 ∧ m2 ≤ 60 ∧ atI [V.int 3, V.int 20, V.int 60] ((q : Nat) : Int) = some (V.int ((m2 : Nat) : Int)) := by
      have : q = 0 ∨ q = 1 ∨ q = 2 := by omega
      rcases this with z | z | z
      · exact ⟨3, by decide, by decide, by rw [z]; rfl⟩
      · exact ⟨20, by decide, by decide, by rw [z]; rfl⟩
      · exact ⟨60, by decide, by decide, by rw [z]; rfl⟩
    refine ⟨l, _, _, _, rfl, rfl, SqL.of hl3, hat, _, _, rfl, ?_⟩
    have k03 : KeepB r H H3 := k1.trans ((KeepB.of s2).trans k3)
    refine ⟨Nat.zero_le _, fun L hL => ?_⟩
    have k04 : KeepB r H (upd H3 L (.lst [])) := k03.trans (KeepB.of fun b o e => by rw [upd_ne (ne_of_none e hL)]; exact e)
    have R4 : RowAt K (upd H3 L (.lst [])) r sc ns := R3.same fun b o e => by rw [upd_ne (ne_of_none e hL)]; exact e
    have nLr : L ≠ r := fun z => by
      obtain ⟨a, b', c, h⟩ := R3.at_
      rw [z, h] at hL
      cases hL
    refine ⟨_, rfl, _, rfl, by omega, by omega, ?_⟩
    rw [Int.toNat_natCast]
    have hLH : H L = none := by
      cases e : H L with
      | none => rfl
      | some o =>
        rw [k03 _ _ e nLr] at hL
        cases hL
    refine for_it walk_range (fun i σ H2 => ∃ (cars : List Car) (v5 : Option V), σ = [some (.ref r), some (.int ((m : Nat) : Int)), some (.int ((size : Nat) : Int)), some (.int ((far : Nat) : Int)), some (.ref L), v5] ∧ KeepB r H H2 ∧ RowAt K H2 r sc ns ∧ TupsAt H2 L (cars.map Car.vs) ∧ cars.length = i ∧ ∀ j c, cars[j]? = some c → DrawnC j c)
      ⟨[], none, rfl, k04, R4, tups_nil upd_same, rfl, fun j c e => by simp at e⟩ (fun _ _ _ _ _ => True.intro) ?_ ?_
    · rintro i x σ H2 H5 hi ⟨cars, v5, rfl, k2, R5, T5, hlen, hd⟩ ⟨e, ex⟩
      have ex2 : x = V.int ((i : Nat) : Int) := by
        rw [ex]
        show V.int (0 + ((i : Nat) : Int)) = _
        rw [Int.zero_add]
      clear ex
      subst e ex2
      have hi10 : i < 10 := by omega
      obtain ⟨ts, t1, t2, t3⟩ := id T5
      refine ⟨_, rfl, .inl ⟨rfl, _, SqL.of t1⟩, _, rfl, ("abcdefghij" : Str), _, 97 + i, rfl, rfl, by decide, aj_at i hi10, ?_⟩
      refine ⟨_, rfl, _, rfl, r, sc, ns, far, rfl, hf1, by omega, R5, fun H6 q1 k6 R6 hq1 => ?_⟩
      have xr6 : ∃ xs, H5 r = some (.lst xs) := let ⟨a, b, c, h⟩ := R5.at_; ⟨_, h⟩
      obtain ⟨xs5, hx5⟩ := xr6
      have T6 := T5.keep k6 nLr hx5
      refine ⟨_, rfl, by show 2 ≤ sizeLine; decide, fun l2 hl2 => ?_⟩
      have s7 : Same H6 (upd H6 l2 (.lst [.int 4, .int 9])) := fun b o e => by rw [upd_ne (ne_of_none e hl2)]; exact e
      have R7 := R6.same s7
      have T7 := T6.same s7
      refine ⟨_, rfl, r, sc, ns, 2, rfl, by omega, by omega, R7, fun H8 q2 k8 R8 hq2 => ?_⟩
      have nl2r : l2 ≠ r := fun z => by
        obtain ⟨a, b', c, h⟩ := R6.at_
        rw [z, h] at hl2
        cases hl2
      have hl8 : H8 l2 = some (.lst [.int 4, .int 9]) := k8 _ _ upd_same nl2r
      obtain ⟨xs7, hx7⟩ : ∃ xs, (upd H6 l2 (.lst [.int 4, .int 9])) r = some (.lst xs) := let ⟨a, b, c, h⟩ := R7.at_; ⟨_, h⟩
      have T8 := T7.keep k8 nLr hx7
      obtain ⟨m2, hm2, hm9, hat2⟩ : ∃ m2 : Nat, 1 ≤ m2 ∧ m2 ≤ 9 ∧ atI [V.int 4, V.int 9] ((q2 : Nat) : Int) = some (V.int ((m2 : Nat) : Int)) := by
        have : q2 = 0 ∨ q2 = 1 := by omega
        rcases this with z | z
        · exact ⟨4, by decide, by decide, by rw [z]; rfl⟩
        · exact ⟨9, by decide, by decide, by rw [z]; rfl⟩
      refine ⟨l2, _, _, _, rfl, rfl, SqL.of hl8, hat2, r, sc, ns, m2, rfl, hm2, by omega, R8, fun H9 q3 k9 R9 hq3 => ?_⟩
      obtain ⟨xs8, hx8⟩ : ∃ xs, H8 r = some (.lst xs) := let ⟨a, b, c, h⟩ := R8.at_; ⟨_, h⟩
      have T9 := T8.keep k9 nLr hx8
      obtain ⟨ts9, z1, z2, z3⟩ := T9
      refine ⟨_, _, rfl, rfl, by show 3 ≤ sizeLine; decide, fun t ht => ?_⟩
      have nLt : L ≠ t := ne_of_none z1 ht
      refine ⟨L, _, .ref t, rfl, rfl, by rw [upd_ne nLt]; exact z1, by rw [List.length_map, z2, List.length_map, hlen]; exact small1000 (by omega), ?_⟩
      have k29 : KeepB r H H9 := k2.trans (k6.trans ((KeepB.of s7).trans (k8.trans k9)))
      have hup : Same H9 (upd H9 t (.tup [.str (carName i), .int ((q1 : Nat) : Int), .int (1 + ((q3 : Nat) : Int))])) := fun b o e => by rw [upd_ne (ne_of_none e ht)]; exact e
      have kfin : KeepB r H (upd (upd H9 t (.tup [.str (carName i), .int ((q1 : Nat) : Int), .int (1 + ((q3 : Nat) : Int))])) L (.lst (ts9.map V.ref ++ [.ref t]))) := fun b o e n => by
        rw [upd_ne (ne_of_none e hLH)]
        exact hup _ _ (k29 _ _ e n)
      refine ⟨cars ++ [⟨carName i, ((q1 : Nat) : Int), 1 + ((q3 : Nat) : Int)⟩], _, rfl, kfin, ⟨?_, fun H' k' => R0.scr H' (kfin.trans k')⟩, ?_, by rw [List.length_append, hlen]; rfl, fun j c e => ?_⟩
      · obtain ⟨a, b, c, h⟩ := R9.at_
        exact ⟨a, b, c, by rw [upd_ne nLr.symm]; exact hup _ _ h⟩
      · have := tups_push z1 z2 z3 ht [.str (carName i), .int ((q1 : Nat) : Int), .int (1 + ((q3 : Nat) : Int))]
        rw [List.map_append]
        exact this
      · rcases snoc_get e with e | ⟨hj, rfl⟩
        · exact hd j c e
        · rw [hlen] at hj
          subst hj
          exact ⟨rfl, by show (0 : Int) ≤ ((q1 : Nat) : Int); omega, by show ((q1 : Nat) : Int) ≤ 60; omega, by show (1 : Int) ≤ 1 + ((q3 : Nat) : Int); omega, by show 1 + ((q3 : Nat) : Int) ≤ 9; omega⟩
    · rintro σ H2 ⟨cars, v5, rfl, k2, R5, ⟨ts, t1, t2, t3⟩, hlen, hd⟩
      refine ⟨_, rfl, L, _, rfl, .inl ⟨SqL.of t1, fun t ht => ?_⟩⟩
      have s3 : Same H2 (upd H2 t (.tup (ts.map V.ref))) := fun b o e => by rw [upd_ne (ne_of_none e ht)]; exact e
      refine k _ t cars (k2.trans (KeepB.of s3)) (R5.same s3) ⟨ts, upd_same, by rw [t2, List.length_map], fun i a c e1 e2 => s3 _ _ (t3 i a c.vs e1 (by rw [List.getElem?_map, e2]; rfl))⟩ (drawn_ok (by omega) hd) (by omega)
end
end Sl

set_option Elab.async false
set_option linter.all false
set_option maxRecDepth 100000
set_option maxHeartbeats 1000000
namespace Sl
open PySem PySem.Spec L2 OwnR LamX
/-- all that is no list stays, and what r is not -/
theorem KeepB.notlst {r : Addr} {H H' : Hp} {xs : List V} (k : KeepB r H H') (hr : H r = some (.lst xs)) : ∀ b o, H b = some o → (∀ ys, o ≠ .lst ys) → H' b = some o := fun b o e n => k b o e (ne_of e hr (n _))
theorem RoadAt.keepB {CR : Addr} {H H' : Hp} {p r : Addr} {secs : List Sec} {xs : List V} (h : RoadAt CR H p secs) (k : KeepB r H H') (hr : H r = some (.lst xs)) : RoadAt CR H' p secs := by
  obtain ⟨dx, t, u, h1, ⟨ts, a1, a2, a3⟩, h3⟩ := h
  have nl := k.notlst hr
  exact ⟨dx, t, u, nl _ _ h1 fun _ z => (nomatch z), ⟨ts, nl _ _ a1 fun _ z => (nomatch z), a2, fun i t s e1 e2 => nl _ _ (a3 i t s e1 e2) fun _ z => nomatch z⟩, h3⟩
theorem RunsAt.keepB {H H' : Hp} {p r : Addr} {secs : List Sec} {xs : List V} (h : RunsAt H p secs) (k : KeepB r H H') (n : p ≠ r) (hr : H r = some (.lst xs)) : RunsAt H' p secs := by
  obtain ⟨ts, a1, a2, a3⟩ := h
  have nl := k.notlst hr
  exact ⟨ts, k _ _ a1 n, a2, fun i t s e1 e2 => nl _ _ (a3 i t s e1 e2) fun _ z => nomatch z⟩
section
variable {P : Program} {w : World} {K : PySem.W.Frag} {mg : Str → Option Value} {base : Heap}
def spDrawn (K : PySem.W.Frag) (CR : Addr) : Sp := fun vs H Q _ => ∃ (r sc : Addr) (ns : List Int), ∃ (m q : Nat), vs = [.ref r, .int (m : Nat), .int (q : Nat)] ∧ 1 ≤ m ∧ m ≤ 7 ∧ q ≤ 9 ∧ RowAt K H r sc ns ∧
  ∀ H' t p l a bs cars, KeepB r H H' → RowAt K H' r sc ns → H' t = some (.tup [.ref p, .ref l, .ref a]) → RoadAt CR H' p (runsOf bs) → RunsAt H' l (runsOf bs) → l ≠ r → CarsAt H' a cars → SecsOk (runsOf bs) → CarsOk cars → (runsOf bs).length ≤ m → cars.length ≤ q → Q (.ref t) H'
def nDrawn : List Str := ["_law_row", "_law_sections_here", "_law_cars_here", "_law_units_here"]
theorem scDrawn : FnScope nDrawn ["_law_row", "_law_sections_here", "_law_cars_here"] (defScope sDrawn) := ⟨rfl, rfl, rfl, by decide +kernel, rfl, by decide +kernel, by decide +kernel⟩
theorem ok_drawn {f fU fS fC fO CR lp kp pO : Addr} {fd dU dS dC dO : FuncData} {mc : Value} (F : Fun K "_law_drawn" "_law_drawn" sDrawn f fd) (M : Mg mg) (RR : RoadT K w mg CR lp kp)
    (BU : Fb K mg "_law_units" sUnits ["_law_row", "_law_most"] fU dU) (GU : FnOk P w K mg base CX0 2 fU dU ["_law_row", "_law_most"] (spUnits K))
    (BS : Fb K mg "_law_sections" sSections ["_law_units_here"] fS dS) (GS : FnOk P w K mg base CX0 1 fS dS ["_law_units_here"] spSections)
    (BC : Fb K mg "_law_cars" sCars ["_law_row", "_law_most"] fC dC) (GC : FnOk P w K mg base CX0 2 fC dC ["_law_row", "_law_most"] (spCars K))
    (cr : ClX.CRead K CR mc) (cm : ClX.CMet K CR mc "of_units" pO fO) (bO : Binds K dO ["cls", "units"] []) (GO : FnOk P w K mg base CX0 5 fO dO ["cls", "units"] (spOfUnits CR)) :
    FnOk P w K mg base CX0 6 f fd ["_law_row", "_law_sections_here", "_law_cars_here"] (spDrawn K CR) := by
  refine F.ok scDrawn (fun vs H Q E h => ?_) (fun cdv A outer s H vs Q E hr h => ?_)
  · obtain ⟨r, sc, ns, m, q, rfl, _⟩ := h
    rfl
  · obtain ⟨r, sc, ns, m, q, rfl, m1, m7, q9, R0, k⟩ := h
    have nd := scDrawn.nd
    refine ⟨_, pss_cons (ps_set (i := 3) nd rfl (.inl rfl) (pe_call GU (hr.mono (by decide)) (by rfl) BU.at_ BU.fn.kp BU.bd .nil pass0 (pa_cons (pv 0) (pa_cons (pv 1) pa_nil))))
      (pss_one (ps_ret (pe_tup (pa_cons (ClX.pe_cmeth (pe_glob (v := .ref CR) (by rfl) RR.mgC rfl) cr cm (GO.raw bO .nil) hr pass0 (pa_cons (pv 3) pa_nil))
        (pa_cons (pe_call GS (hr.mono (by decide)) (by rfl) BS.at_ BS.fn.kp BS.bd .nil pass0 (pa_cons (pv 3) pa_nil))
        (pa_cons (pe_call GC (hr.mono (by decide)) (by rfl) BC.at_ BC.fn.kp BC.bd .nil pass0 (pa_cons (pv 0) (pa_cons (pv 2) pa_nil))) pa_nil)))))), ?_⟩
    refine ⟨_, rfl, _, rfl, r, sc, ns, m, rfl, m1, by omega, R0, fun H1 u bs k1 R1 hu b1 b6 hb => ?_⟩
    have SO : SecsOk (runsOf bs) := secsOk_runs (m := m) b1 (by omega) (by omega)
    refine ⟨rfl, _, rfl, u, bs, rfl, hu, by omega, SO, fun H2 p s2 hp A2 => ?_⟩
    refine ⟨_, rfl, u, bs, rfl, hu, by omega, fun H3 l s3 hl A3 => ?_⟩
    refine ⟨_, rfl, _, rfl, r, sc, ns, q, rfl, by omega, (R1.same s2).same s3, fun H4 a cars k4 R4 A4 CO hc => ?_⟩
    refine ⟨by show 3 ≤ sizeLine; decide, fun t ht => ?_⟩
    obtain ⟨xs, hx⟩ : ∃ xs, H3 r = some (.lst xs) := let ⟨a, b, c, h⟩ := ((R1.same s2).same s3).at_; ⟨_, h⟩
    have nlr : l ≠ r := fun z => by
      obtain ⟨a, b, c, h⟩ := (R1.same s2).at_
      rw [z, h] at hl
      cases hl
    have st : Same H4 (upd H4 t (.tup [.ref p, .ref l, .ref a])) := fun b o e => by rw [upd_ne (ne_of_none e ht)]; exact e
    exact k _ t p l a bs cars (k1.trans ((KeepB.of (s2.trans s3)).trans (k4.trans (KeepB.of st)))) (R4.same st) upd_same (((A2.ext (ExtN.same s3)).keepB k4 hx).ext (ExtN.same st)) ((A3.keepB k4 nlr hx).ext (ExtN.same st)) nlr (A4.ext (ExtN.same st)) SO CO (by omega) hc
end
end Sl

set_option Elab.async false
set_option linter.all false
set_option maxRecDepth 100000
set_option maxHeartbeats 1000000
namespace Sl
open PySem PySem.Spec L2 OwnR LamX
/-! ### the law's own overtakings -/
theorem posL_get {n : Str} {l : List Str} (nd : l.Nodup) {i : Nat} (h : l[i]? = some n) : posL n l = i := by
  have hm := List.mem_of_getElem? h
  exact nd_ix nd (posL_at hm) h
theorem drop_mem {l : List Str} (nd : l.Nodup) {o : Str} (ho : o ∈ l) (i : Nat) : decide (o ∈ l.drop (i + 1)) = decide (i < posL o l) := by
  rw [decide_eq_decide]
  constructor
  · intro h
    obtain ⟨j, hj⟩ := List.mem_iff_getElem?.mp h
    rw [List.getElem?_drop] at hj
    rw [posL_get nd hj]
    omega
  · intro h
    have e := posL_at ho
    refine List.mem_iff_getElem?.mpr ⟨posL o l - (i + 1), ?_⟩
    rw [List.getElem?_drop, show i + 1 + (posL o l - (i + 1)) = posL o l by omega]
    exact e
theorem ovSec_same {l : List Str} (nd : l.Nodup) (k : Nat) : ∀ i, ovSec l l k i = []
  | 0 => rfl
  | i + 1 => by
    rw [ovSec_succ, ovSec_same nd k i, List.nil_append]
    unfold ovMid
    cases hn : l[i]? with
    | none => rfl
    | some n =>
      show ovIn l k i n (l.take (posL n l)) = []
      rw [posL_get nd hn]
      unfold ovIn
      rw [List.map_eq_nil_iff, List.filter_eq_nil_iff]
      intro o ho
      obtain ⟨j, hj⟩ := List.mem_iff_getElem?.mp ho
      have hji : j < i := by
        have := (List.getElem?_eq_some_iff.mp hj).1
        rw [List.length_take] at this
        omega
      rw [List.getElem?_take_of_lt hji] at hj
      rw [drop_mem nd (List.mem_of_getElem? hj), posL_get nd hj]
      simp
      omega
def OrdsAt (H : Hp) (a : Addr) (secs : List Sec) (cars : List Car) : Prop := ∃ os : List Addr, H a = some (.lst (os.map V.ref)) ∧ os.length = secs.length + 1 ∧ ∀ (k : Nat) (d : Addr), os[k]? = some d → H d = some (.lst ((plcC secs cars k).ord.map V.str))
end Sl

set_option Elab.async false
set_option linter.all false
set_option maxRecDepth 100000
set_option maxHeartbeats 1000000
namespace Sl
open PySem PySem.Spec L2 OwnR LamX
/-! ### the law's own driver: rows of a section, wide or narrow -/
def wrow (wd : Bool) (fr : Str → Int) (acc : List (RowT Str)) (n : Str) : RowT Str := if wd then (n, fr n, none) else fnext fr acc n
def wrows (wd : Bool) (fr : Str → Int) (ord : List Str) : List (RowT Str) := ord.foldl (fun acc n => acc ++ [wrow wd fr acc n]) []
theorem wrow_name (wd : Bool) (fr : Str → Int) (acc : List (RowT Str)) (n : Str) : (wrow wd fr acc n).1 = n := by
  unfold wrow
  split
  · rfl
  · exact fnext_name fr acc n
theorem wrows_snoc (wd : Bool) (fr : Str → Int) (ord : List Str) (n : Str) : wrows wd fr (ord ++ [n]) = wrows wd fr ord ++ [wrow wd fr (wrows wd fr ord) n] := by
  unfold wrows
  rw [List.foldl_append]
  rfl
theorem wrows_narrow (fr : Str → Int) (ord : List Str) : wrows false fr ord = foll fr ord := rfl
theorem wrows_wide (fr : Str → Int) (ord : List Str) : wrows true fr ord = ord.map fun n => (n, fr n, none) := by
  have h : ∀ (l : List Str) (acc : List (RowT Str)), l.foldl (fun acc n => acc ++ [wrow true fr acc n]) acc = acc ++ l.map fun n => (n, fr n, none) := by
    intro l
    induction l with
    | nil => intro acc; simp
    | cons n r ih =>
      intro acc
      rw [List.foldl_cons, ih, List.map_cons, List.append_assoc]
      rfl
  have := h ord []
  simpa [wrows] using this
theorem wrows_names (wd : Bool) (fr : Str → Int) (ord : List Str) : (wrows wd fr ord).map (·.1) = ord := by
  have h : ∀ (l : List Str) (acc : List (RowT Str)), (l.foldl (fun acc n => acc ++ [wrow wd fr acc n]) acc).map (·.1) = acc.map (·.1) ++ l := by
    intro l
    induction l with
    | nil => intro acc; simp
    | cons n r ih =>
      intro acc
      rw [List.foldl_cons, ih, List.map_append, List.append_assoc]
      simp [wrow_name]
  have := h ord []
  simpa [wrows] using this
theorem wrows_tick (pace : Str → Int) (p : Pl Str) (s : Sec) (nd : p.ord.Nodup) {n : Str} (hn : n ∈ p.ord) : ∃ x, look (wrows s.1 (freeP pace p s.2) p.ord) n = some x ∧ x.1 = (stepP pace p s).tk n := by
  obtain ⟨x, hx⟩ := look_some (acc := wrows s.1 (freeP pace p s.2) p.ord) (n := n) (by rw [wrows_names]; exact hn)
  refine ⟨x, hx, ?_⟩
  unfold stepP
  cases hw : s.1 with
  | true =>
    rw [hw, wrows_wide] at hx
    obtain ⟨i, hi⟩ := List.mem_iff_getElem?.mp hn
    have := look_get (acc := p.ord.map fun n => (n, freeP pace p s.2 n, none)) (by rw [List.map_map]; exact (List.map_id p.ord).symm ▸ nd) (i := i) (r := (n, freeP pace p s.2 n, none)) (by rw [List.getElem?_map, hi]; rfl)
    rw [this] at hx
    cases hx
    rfl
  | false =>
    rw [hw, wrows_narrow] at hx
    show x.1 = tickOf (foll (freeP pace p s.2) p.ord) n
    unfold tickOf
    rw [hx]
    rfl
theorem wrows_lead (pace : Str → Int) (p : Pl Str) (s : Sec) (n : Str) : leadOf (wrows s.1 (freeP pace p s.2) p.ord) n = leadP pace p s n := by
  unfold leadP
  cases hw : s.1 with
  | true =>
    rw [wrows_wide]
    show leadOf _ n = none
    unfold leadOf look
    cases q : (p.ord.map fun n => ((n, freeP pace p s.2 n, none) : RowT Str)).find? (fun r => decide (r.1 = n)) with
    | none => rfl
    | some r =>
      have hr := List.mem_of_find?_eq_some q
      obtain ⟨m, _, rfl⟩ := List.mem_map.mp hr
      rfl
  | false => rfl
def gOf (b : Str → List Int) (acc : List (RowT Str)) (n : Str) : List Int := b n ++ (match look acc n with
  | some x => [x.1]
  | none => [])
theorem gOf_nil (b : Str → List Int) : gOf b [] = b := by
  funext n
  unfold gOf
  rw [look_nil]
  exact List.append_nil _
theorem gOf_snoc (b : Str → List Int) (acc : List (RowT Str)) (r : RowT Str) (h : r.1 ∉ acc.map (·.1)) : (fun n => if n = r.1 then gOf b acc r.1 ++ [r.2.1] else gOf b acc n) = gOf b (acc ++ [r]) := by
  funext n
  show (if n = r.1 then gOf b acc r.1 ++ [r.2.1] else gOf b acc n) = _
  unfold gOf
  rw [look_snoc acc r n h]
  by_cases e : n = r.1
  · rw [if_pos e, if_pos e, look_none h, e]
    simp
  · rw [if_neg e, if_neg e]
theorem gOf_in {b : Str → List Int} {acc : List (RowT Str)} {n : Str} {x : Int × Option Str} (h : look acc n = some x) : gOf b acc n = b n ++ [x.1] := by
  unfold gOf
  rw [h]
def tkl (secs : List Sec) (cars : List Car) (i : Nat) (n : Str) : List Int := (List.range (i + 1)).map fun k => (plcC secs cars k).tk n
theorem tkl_succ (secs : List Sec) (cars : List Car) (i : Nat) (n : Str) : tkl secs cars (i + 1) n = tkl secs cars i n ++ [(plcC secs cars (i + 1)).tk n] := by
  unfold tkl
  rw [List.range_succ, List.map_append]
  rfl
theorem tkl_last (secs : List Sec) (cars : List Car) (i : Nat) (n : Str) : ∃ l, tkl secs cars i n = l ++ [(plcC secs cars i).tk n] := by
  unfold tkl
  exact ⟨(List.range i).map fun k => (plcC secs cars k).tk n, by rw [List.range_succ, List.map_append]; rfl⟩
/-- lists of numbers are no lists of names, none of references -/
theorem ints_str {l : List Int} {m : List Str} (h : l ≠ []) : (HO.lst (l.map V.int)) ≠ .lst (m.map V.str) := by
  intro z
  cases l with
  | nil => exact h rfl
  | cons a r =>
    cases m with
    | nil => cases z
    | cons b q => cases z
theorem ints_ref {l : List Int} {m : List Addr} (h : l ≠ []) : (HO.lst (l.map V.int)) ≠ .lst (m.map V.ref) := by
  intro z
  cases l with
  | nil => exact h rfl
  | cons a r =>
    cases m with
    | nil => cases z
    | cons b q => cases z
structure DrS (T : List (Addr × Str)) (H0 H : Hp) (secs : List Sec) (cars : List Car) (i : Nat) (g : Str → List Int) (TK PD OD LD : Addr) (ds os ls : List Addr) : Prop where
  ext : ExtN H0 H
  tabs : Tabs T H
  tk : ∃ kt, H TK = some (.dK kt) ∧ ∀ (q : Nat) (c : Car) (d : Addr), cars[q]? = some c → ds[q]? = some d → valV kt (Sum.inr c.name : Key) = some (.ref d)
  dl : ds.length = cars.length
  dv : ∀ (q : Nat) (c : Car) (d : Addr), cars[q]? = some c → ds[q]? = some d → H d = some (.lst ((g c.name).map V.int))
  gne : ∀ n, g n ≠ []
  dn : ds.Nodup
  dnew : ∀ d ∈ ds, New H0 d
  pd : ∃ kp, H PD = some (.dK kp) ∧ ∀ c ∈ cars, valV kp (Sum.inr c.name : Key) = some (.int c.pace)
  od : H OD = some (.lst (os.map V.ref))
  ol : os.length = i + 1
  ov : ∀ (k : Nat) (d : Addr), os[k]? = some d → H d = some (.lst ((plcC secs cars k).ord.map V.str))
  odn : New H0 OD
  ld : H LD = some (.lst (ls.map V.ref))
  ll : ls.length = i
  lv : ∀ (k : Nat) (d : Addr), ls[k]? = some d → ∃ kv, H d = some (.dK kv) ∧ ∀ n, valV kv (Sum.inr n : Key) = (ldrC secs cars k n).map V.str
  ldn : New H0 LD
  osl : ∀ d ∈ os, d ≠ LD
section
variable {T : List (Addr × Str)} {H0 H H' : Hp} {secs : List Sec} {cars : List Car} {i : Nat} {g : Str → List Int} {TK PD OD LD : Addr} {ds os ls : List Addr}
theorem DrS.step (D : DrS T H0 H secs cars i g TK PD OD LD ds os ls) (e : ExtN H H') (t : Tabs T H') : DrS T H0 H' secs cars i g TK PD OD LD ds os ls where
  ext := D.ext.trans e
  tabs := t
  tk := let ⟨kt, a, b⟩ := D.tk; ⟨kt, ExtN.dK e a, b⟩
  dl := D.dl
  dv := fun q c d h1 h2 => ExtN.lst e (D.dv q c d h1 h2)
  gne := D.gne
  dn := D.dn
  dnew := D.dnew
  pd := let ⟨kp, a, b⟩ := D.pd; ⟨kp, ExtN.dK e a, b⟩
  od := ExtN.lst e D.od
  ol := D.ol
  ov := fun k d h => ExtN.lst e (D.ov k d h)
  odn := D.odn
  ld := ExtN.lst e D.ld
  ll := D.ll
  lv := fun k d h => let ⟨kv, a, b⟩ := D.lv k d h; ⟨kv, ExtN.dK e a, b⟩
  ldn := D.ldn
  osl := D.osl
theorem DrS.congr (D : DrS T H0 H secs cars i g TK PD OD LD ds os ls) {g' : Str → List Int} (h : ∀ c ∈ cars, g c.name = g' c.name) (hn : ∀ n, g' n ≠ []) : DrS T H0 H secs cars i g' TK PD OD LD ds os ls :=
  { D with dv := fun q c d h1 h2 => by rw [← h c (List.mem_of_getElem? h1)]; exact D.dv q c d h1 h2, gne := hn }
/-- a tick is put behind a car's list -/
theorem DrS.tick (D : DrS T H0 H secs cars i g TK PD OD LD ds os ls) (nd : (names cars).Nodup) {q : Nat} {c : Car} {d : Addr} (hq : cars[q]? = some c) (hd : ds[q]? = some d) (x : Int) :
    DrS T H0 (upd H d (.lst ((g c.name).map V.int ++ [.int x]))) secs cars i (fun n => if n = c.name then g c.name ++ [x] else g n) TK PD OD LD ds os ls := by
  have hc := D.dv q c d hq hd
  have kl : ∀ b o, H b = some o → (∀ xs, o ≠ .lst xs) → upd H d (.lst ((g c.name).map V.int ++ [.int x])) b = some o := fun b o e n => by rw [upd_ne (ne_of e hc (n _))]; exact e
  have ks : ∀ b (m : List Str), H b = some (.lst (m.map V.str)) → upd H d (.lst ((g c.name).map V.int ++ [.int x])) b = some (.lst (m.map V.str)) := fun b m e => by rw [upd_ne (ne_of e hc (ints_str (D.gne _)).symm)]; exact e
  have kr : ∀ b (m : List Addr), H b = some (.lst (m.map V.ref)) → upd H d (.lst ((g c.name).map V.int ++ [.int x])) b = some (.lst (m.map V.ref)) := fun b m e => by rw [upd_ne (ne_of e hc (ints_ref (D.gne _)).symm)]; exact e
  have nw := D.dnew d (List.mem_of_getElem? hd)
  refine { D with ext := fun b o e n => ?_, tabs := ?_, tk := ?_, dv := ?_, gne := ?_, pd := ?_, od := kr _ _ D.od, ov := fun k b h => ks _ _ (D.ov k b h), ld := kr _ _ D.ld, lv := ?_ }
  · rw [upd_ne (nw b o e n)]
    exact D.ext b o e n
  · exact Tabs.keepL D.tabs kl
  · obtain ⟨kt, a, b⟩ := D.tk
    exact ⟨kt, kl _ _ a fun _ z => (nomatch z), b⟩
  · intro q' c' d' h1 h2
    by_cases e : d' = d
    · subst e
      have : q' = q := nd_ix D.dn h2 hd
      subst this
      rw [hq] at h1
      cases h1
      rw [upd_same]
      show _ = some (HO.lst ((if c.name = c.name then g c.name ++ [x] else g c.name).map V.int))
      rw [if_pos rfl, List.map_append]
      rfl
    · rw [upd_ne e]
      have hne : ¬ c'.name = c.name := fun z => by
        have a1 : (names cars)[q']? = some c.name := by unfold names; rw [List.getElem?_map, h1]; exact congrArg some z
        have a2 : (names cars)[q]? = some c.name := by unfold names; rw [List.getElem?_map, hq]; rfl
        have := nd_ix nd a1 a2
        subst this
        rw [hd] at h2
        exact e (Option.some.inj h2).symm
      show _ = some (HO.lst ((if c'.name = c.name then g c.name ++ [x] else g c'.name).map V.int))
      rw [if_neg hne]
      exact D.dv q' c' d' h1 h2
  · intro n
    show (if n = c.name then g c.name ++ [x] else g n) ≠ []
    split
    · simp
    · exact D.gne n
  · obtain ⟨kp, a, b⟩ := D.pd
    exact ⟨kp, kl _ _ a fun _ z => (nomatch z), b⟩
  · intro k b h
    obtain ⟨kv, a, e⟩ := D.lv k b h
    exact ⟨kv, kl _ _ a fun _ z => (nomatch z), e⟩
theorem DrS.tickKeep (D : DrS T H0 H secs cars i g TK PD OD LD ds os ls) {q : Nat} {c : Car} {d : Addr} (hq : cars[q]? = some c) (hd : ds[q]? = some d) (o' : HO) :
    (∀ b o, H b = some o → (∀ xs, o ≠ .lst xs) → upd H d o' b = some o) ∧ ∀ b (m : List Str), H b = some (.lst (m.map V.str)) → upd H d o' b = some (.lst (m.map V.str)) := by
  have hc := D.dv q c d hq hd
  exact ⟨fun b o e n => by rw [upd_ne (ne_of e hc (n _))]; exact e, fun b m e => by rw [upd_ne (ne_of e hc (ints_str (D.gne _)).symm)]; exact e⟩
/-- the section's order and leaders are put behind the lists -/
theorem DrS.put (D : DrS T H0 H secs cars i g TK PD OD LD ds os ls) {o' l' : Addr} {kv : List (Key × V)} (ho : H o' = some (.lst ((plcC secs cars (i + 1)).ord.map V.str))) (no : o' ≠ LD) (hl : H l' = some (.dK kv)) (hkv : ∀ n, valV kv (Sum.inr n : Key) = (ldrC secs cars i n).map V.str) :
    DrS T H0 (upd (upd H OD (.lst (os.map V.ref ++ [.ref o']))) LD (.lst (ls.map V.ref ++ [.ref l']))) secs cars (i + 1) g TK PD OD LD ds (os ++ [o']) (ls ++ [l']) := by
  have one : os ≠ [] := fun z => by have := D.ol; rw [z] at this; simp at this
  have refs_str : ∀ (m : List Str), HO.lst (m.map V.str) ≠ .lst (os.map V.ref) := fun m z => by
    cases os with
    | nil => exact one rfl
    | cons a r =>
      cases m with
      | nil => cases z
      | cons b q => cases z
  have nOL : OD ≠ LD := fun z => by
    have h1 := D.od
    have h2 := D.ld
    rw [z, h2] at h1
    have h3 : ls.map V.ref = os.map V.ref := by
      have := Option.some.inj h1
      injection this
    have := congrArg List.length h3
    rw [List.length_map, List.length_map, D.ol, D.ll] at this
    omega
  have kl : ∀ b o, H b = some o → (∀ xs, o ≠ .lst xs) → upd (upd H OD (.lst (os.map V.ref ++ [.ref o']))) LD (.lst (ls.map V.ref ++ [.ref l'])) b = some o := fun b o e n => by
    rw [upd_ne (ne_of e D.ld (n _)), upd_ne (ne_of e D.od (n _))]
    exact e
  have kd : ∀ (q : Nat) (c : Car) (d : Addr), cars[q]? = some c → ds[q]? = some d → upd (upd H OD (.lst (os.map V.ref ++ [.ref o']))) LD (.lst (ls.map V.ref ++ [.ref l'])) d = some (.lst ((g c.name).map V.int)) := fun q c d h1 h2 => by
    have e := D.dv q c d h1 h2
    rw [upd_ne (ne_of e D.ld (ints_ref (D.gne _))), upd_ne (ne_of e D.od (ints_ref (D.gne _)))]
    exact e
  refine { D with ext := fun b o e n => ?_, tabs := Tabs.keepL D.tabs kl, tk := ?_, dv := kd, pd := ?_, od := ?_, ol := by rw [List.length_append, D.ol]; rfl, ov := ?_, ld := ?_, ll := by rw [List.length_append, D.ll]; rfl, lv := ?_, osl := ?_ }
  · rw [upd_ne (D.ldn b o e n), upd_ne (D.odn b o e n)]
    exact D.ext b o e n
  · obtain ⟨kt, a, b⟩ := D.tk
    exact ⟨kt, kl _ _ a fun _ z => (nomatch z), b⟩
  · obtain ⟨kp, a, b⟩ := D.pd
    exact ⟨kp, kl _ _ a fun _ z => (nomatch z), b⟩
  · rw [upd_ne nOL, upd_same, List.map_append]
    rfl
  · intro k d h
    rcases snoc_get h with h | ⟨hk, rfl⟩
    · have e := D.ov k d h
      rw [upd_ne (D.osl d (List.mem_of_getElem? h)), upd_ne (ne_of e D.od (refs_str _))]
      exact e
    · rw [D.ol] at hk
      subst hk
      rw [upd_ne no, upd_ne (ne_of ho D.od (refs_str _))]
      exact ho
  · rw [upd_same, List.map_append]
    rfl
  · intro k d h
    rcases snoc_get h with h | ⟨hk, rfl⟩
    · obtain ⟨kv', a, e⟩ := D.lv k d h
      exact ⟨kv', kl _ _ a fun _ z => (nomatch z), e⟩
    · rw [D.ll] at hk
      subst hk
      exact ⟨kv, kl _ _ hl fun _ z => (nomatch z), hkv⟩
  · intro d hd
    rcases List.mem_append.mp hd with hd | hd
    · exact D.osl d hd
    · rw [List.mem_singleton.mp hd]
      exact no
end
end Sl

set_option Elab.async false
set_option linter.all false
set_option maxRecDepth 100000
set_option maxHeartbeats 1000000
namespace Sl
open PySem PySem.Spec L2 OwnR LamX
def nDriven : List Str := ["_law_sections_here", "_law_cars_here", "_law_order", "_law_car", "_law_ticks", "_law_paces", "_law_orders", "_law_leaders", "_law_name", "_law_start", "_law_pace", "_law_kind", "_law_length", "_law_free", "_law_led", "_law_ahead", "_law_leave"]
theorem scDriven : FnScope nDriven ["_law_sections_here", "_law_cars_here"] (defScope sDriven) := ⟨rfl, rfl, rfl, by decide +kernel, rfl, by decide +kernel, by decide +kernel⟩
def qDriven : Str := ("_law_driven" : Str) ++ (".<locals>." : Str) ++ ("<lambda>" : Str)
theorem DrS.nOL {T : List (Addr × Str)} {H0 H : Hp} {secs : List Sec} {cars : List Car} {i : Nat} {g : Str → List Int} {TK PD OD LD : Addr} {ds os ls : List Addr} (D : DrS T H0 H secs cars i g TK PD OD LD ds os ls) : OD ≠ LD := fun z => by
  have h1 := D.od
  have h2 := D.ld
  rw [z, h2] at h1
  have h3 : ls.map V.ref = os.map V.ref := by
    have := Option.some.inj h1
    injection this
  have := congrArg List.length h3
  rw [List.length_map, List.length_map, D.ol, D.ll] at this
  omega
theorem DrS.putStr {T : List (Addr × Str)} {H0 H : Hp} {secs : List Sec} {cars : List Car} {i : Nat} {g : Str → List Int} {TK PD OD LD : Addr} {ds os ls : List Addr} (D : DrS T H0 H secs cars i g TK PD OD LD ds os ls) {b : Addr} {m : List Str} (h : H b = some (.lst (m.map V.str))) (n : b ≠ LD) (x y : HO) :
    upd (upd H OD x) LD y b = some (.lst (m.map V.str)) := by
  have one : os ≠ [] := fun z => by have := D.ol; rw [z] at this; simp at this
  rw [upd_ne n, upd_ne (ne_of h D.od fun z => ?_)]
  · exact h
  · cases os with
    | nil => exact one rfl
    | cons a r =>
      cases m with
      | nil => cases z
      | cons b q => cases z
theorem DrS.dict {T : List (Addr × Str)} {H0 H : Hp} {secs : List Sec} {cars : List Car} {i : Nat} {g : Str → List Int} {TK PD OD LD G : Addr} {ds os ls : List Addr} {kG : List (Key × V)} (D : DrS T H0 H secs cars i g TK PD OD LD ds os ls) (hG : H G = some (.dK kG)) (n1 : TK ≠ G) (n2 : PD ≠ G) (n3 : ∀ d ∈ ls, d ≠ G) (nw : New H0 G) (x : List (Key × V)) :
    DrS T H0 (upd H G (.dK x)) secs cars i g TK PD OD LD ds os ls := by
  have kl : ∀ b xs, H b = some (.lst xs) → upd H G (.dK x) b = some (.lst xs) := fun b xs e => by rw [upd_ne (ne_of e hG (by intro z; cases z))]; exact e
  refine { D with ext := fun b o e n => ?_, tabs := fun p hp => ?_, tk := ?_, dv := fun q c d h1 h2 => kl _ _ (D.dv q c d h1 h2), pd := ?_, od := kl _ _ D.od, ov := fun k d h => kl _ _ (D.ov k d h), ld := kl _ _ D.ld, lv := fun k d h => ?_ }
  · rw [upd_ne (nw b o e n)]
    exact D.ext b o e n
  · obtain ⟨ps, z1, z2, z3⟩ := D.tabs p hp
    refine ⟨ps, by rw [upd_ne (ne_of z1 hG (by intro z; cases z))]; exact z1, z2, fun pos cv hcv => ?_⟩
    obtain ⟨cc, y1, y2⟩ := z3 pos cv hcv
    exact ⟨cc, y1, by rw [upd_ne (ne_of y2 hG (by intro z; unfold CodeO at z; cases z))]; exact y2⟩
  · obtain ⟨kt, a, b⟩ := D.tk
    exact ⟨kt, by rw [upd_ne n1]; exact a, b⟩
  · obtain ⟨kp, a, b⟩ := D.pd
    exact ⟨kp, by rw [upd_ne n2]; exact a, b⟩
  · obtain ⟨kv, a, b⟩ := D.lv k d h
    exact ⟨kv, by rw [upd_ne (n3 d (List.mem_of_getElem? h))]; exact a, b⟩
theorem same_new {H : Hp} {p : Addr} (h : H p = none) (o : HO) : Same H (upd H p o) := fun b x e => by rw [upd_ne (ne_of_none e h)]; exact e
theorem sort_pairs {cars : List Car} {ts : List Addr} (c2 : ts.length = cars.length) (nd : (names cars).Nodup) : ∃ sp : List (Car × Addr), (isort ((cars.map (·.start)).zip (ts.map V.ref))).map (·.2) = sp.map (fun q => V.ref q.2) ∧ (∀ q ∈ sp, q ∈ cars.zip ts) ∧ sp.map (fun q => q.1.name) = (pl0 cars).ord := by
  refine ⟨sortBy (fun q : Car × Addr => q.1.start) (cars.zip ts), ?_, fun q hq => ?_, ?_⟩
  · have e1 : (cars.map (·.start)).zip (ts.map V.ref) = ((cars.zip ts).map fun x => (x.1.start, x)).map fun q => (q.1, V.ref q.2.2) := by
      rw [List.zip_map, List.map_map]
      rfl
    rw [e1, isort_map (fun q : Car × Addr => V.ref q.2), List.map_map]
    unfold sortBy
    rw [List.map_map]
    rfl
  · exact (sortBy_perm _ _).mem_iff.mp hq
  · have e2 : names cars = (cars.zip ts).map fun q => q.1.name := by
      have : (cars.zip ts).map Prod.fst = cars := List.map_fst_zip (by omega)
      unfold names
      conv => lhs; rw [← this]
      rw [List.map_map]
      rfl
    show _ = sortBy (startOf cars) (names cars)
    rw [e2]
    exact (sortBy_map (fun q : Car × Addr => q.1.name) (fun q => q.1.start) (startOf cars) (cars.zip ts) fun q hq => startOf_car nd (List.of_mem_zip hq).1).symm
section
variable {P : Program} {w : World} {K : PySem.W.Frag} {mg : Str → Option Value} {base : Heap}
def TksAt (H : Hp) (a : Addr) (secs : List Sec) (cars : List Car) : Prop := ∃ kt, H a = some (.dK kt) ∧ ∀ c ∈ cars, ∃ d, valV kt (Sum.inr c.name : Key) = some (.ref d) ∧ H d = some (.lst ((tkl secs cars secs.length c.name).map V.int))
def LdsAt (H : Hp) (a : Addr) (secs : List Sec) (cars : List Car) : Prop := ∃ ls : List Addr, H a = some (.lst (ls.map V.ref)) ∧ ls.length = secs.length ∧ ∀ (k : Nat) (d : Addr), ls[k]? = some d → ∃ kv, H d = some (.dK kv) ∧ ∀ n, valV kv (Sum.inr n : Key) = (ldrC secs cars k n).map V.str
def spDriven (T : List (Addr × Str)) : Sp := fun vs H Q _ => ∃ (s a : Addr) (secs : List Sec) (cars : List Car), vs = [.ref s, .ref a] ∧ RunsAt H s secs ∧ CarsAt H a cars ∧ SecsOk secs ∧ CarsOk cars ∧ Tabs T H ∧
  ∀ H' t tk od ld, ExtN H H' → Tabs T H' → H' t = some (.tup [.ref tk, .ref od, .ref ld]) → TksAt H' tk secs cars → OrdsAt H' od secs cars → LdsAt H' ld secs cars → Q (.ref t) H'
theorem ok_driven {f c Pt : Addr} {fd : FuncData} {T : List (Addr × Str)} (F : FbC K mg "_law_driven" sDriven ["_law_sections_here", "_law_cars_here"] f fd c) (M : Mg mg) (TB : TabB base mg c Pt) (hm : (Pt, qDriven) ∈ T) (hu : ∀ p ∈ T, p.1 = Pt → p.2 = qDriven) :
    FnOk P w K mg base CX0 3 f fd ["_law_sections_here", "_law_cars_here"] (spDriven T) := by
  refine F.fn.ok scDriven (fun vs H Q E h => ?_) (fun A outer s H vs Q E hr h => ?_)
  · obtain ⟨s, a, secs, cars, rfl, _⟩ := h
    rfl
  · obtain ⟨sa, ca, secs, cars, rfl, hS, hC, SO, CO, hT, k⟩ := h
    have nd := scDriven.nd
    have hc1 := hu_of hr
    refine ⟨_, pss_cons (ps_setLc (i := 2) (own := [("_law_car", 3)]) (g := gName 3) (tt := tYes) (te := tOp (rIxT K) (tVar 3) (tC (.int 0))) (by rfl) nd rfl rfl (sw_true rfl rfl rfl (by decide +kernel)) (pi_list (pe_sortLam (par := "_law_car") (r := keyItem K 1) hr TB rfl hm hu (by rfl) M.sorted (lamP_by (sc := defScope sDriven) (by decide +kernel)) (pv 1) (pk_item (lamP_by (sc := defScope sDriven) (by decide +kernel)) (by decide)))) (blkOk_by (N := nDriven) (sc := defScope sDriven) (by decide +kernel))
        (fun _ _ _ _ _ => pg_name (i := 3) nd rfl (Or.inl rfl)) (fun _ _ _ _ _ => pts_nil) (fun _ _ _ _ _ => pe_ix (r := rIxT K) ix_tup (pv 3) pe_int (fun _ _ => rfl)))
      (pss_cons (ps_asg (pe_tup (pa_cons pe_dnewK (pa_cons pe_dnewK (pa_cons (pe_lst (pa_cons (pe_callTy call_list_of (by rfl) M.list (by decide +kernel) (pa_cons (pv 2) pa_nil)) pa_nil)) (pa_cons (pe_lst pa_nil) pa_nil))))) (pg_tup rfl (pgs_cons (pg_name (i := 4) nd rfl (.inl rfl)) (pgs_cons (pg_name (i := 5) nd rfl (.inl rfl)) (pgs_cons (pg_name (i := 6) nd rfl (.inl rfl)) (pgs_cons (pg_name (i := 7) nd rfl (.inl rfl)) pgs_nil))))))
      (pss_cons (ps_for PassesOwn.never rfl (pi_tup (pv 1)) (pg_tup rfl (pgs_cons (pg_name (i := 8) nd rfl (.inl rfl)) (pgs_cons (pg_name (i := 9) nd rfl (.inl rfl)) (pgs_cons (pg_name (i := 10) nd rfl (.inl rfl)) pgs_nil))))
        (pss_one (ps_asg (pe_tup (pa_cons (pe_lst (pa_cons (pv 9) pa_nil)) (pa_cons (pv 10) pa_nil))) (pg_tup rfl (pgs_cons (pg_sub (pv 4) (pv 8) (set_dict hc1)) (pgs_cons (pg_sub (pv 5) (pv 8) (set_dict hc1)) pgs_nil))))))
      (pss_cons (ps_for PassesOwn.never rfl (pi_list (pv 0)) (pg_tup rfl (pgs_cons (pg_name (i := 11) nd rfl (.inl rfl)) (pgs_cons (pg_name (i := 12) nd rfl (.inl rfl)) pgs_nil)))
        (pss_cons (ps_asg (pe_tup (pa_cons pe_dnewK (pa_cons pe_dnewK (pa_cons pe_non pa_nil)))) (pg_tup rfl (pgs_cons (pg_name (i := 13) nd rfl (.inr rfl)) (pgs_cons (pg_name (i := 14) nd rfl (.inl rfl)) (pgs_cons (pg_name (i := 15) nd rfl (.inl rfl)) pgs_nil)))))
        (pss_cons (ps_for PassesOwn.never rfl (pi_list (pv 2)) (pg_name (i := 8) nd rfl (.inl rfl))
          (pss_one (ps_dput hc1 (pv 13) (pv 8) (pe_op op_add (pe_ix ix_list (pe_dget hc1 (pv 4) (pv 8) (fun _ _ => rfl)) (pe_un un_neg pe_int) (fun _ _ => rfl)) (pe_op op_mul (pe_dget hc1 (pv 5) (pv 8) (fun _ _ => rfl)) (pv 12))) rfl)))
        (pss_cons (ps_for PassesOwn.never rfl (pi_list (pv 2)) (pg_name (i := 8) nd rfl (.inl rfl))
          (pss_cons (ps_set (i := 16) nd rfl (.inl rfl) (pe_dget hc1 (pv 13) (pv 8) (fun _ _ => rfl)))
          (pss_cons (ps_if (PW.pt (pw_and (pt_cmpR op_eq (pv 11) pe_str (nomark _)) (pw_and (pt_cmp (pc_notN (pv 15))) (pw_and1 (pt_cmpR op_gt (pe_ix ix_list (pe_dget hc1 (pv 4) (pv 15) (fun _ _ => rfl)) (pe_un un_neg pe_int) (fun _ _ => rfl)) (pv 16) (nomark _))))))
            (pss_cons (ps_set (i := 16) nd rfl (.inl rfl) (pe_ix ix_list (pe_dget hc1 (pv 4) (pv 15) (fun _ _ => rfl)) (pe_un un_neg pe_int) (fun _ _ => rfl)))
            (pss_one (ps_dput hc1 (pv 14) (pv 8) (pe_dget2 hc1 (pv 14) (pv 15) (pv 15) ⟨rfl, rfl, rfl, rfl⟩) rfl))) pss_nil)
          (pss_cons (ps_expr (pe_bm PySem.F.plainAttrs_list PySem.F.slot_list_append PySem.F.type_list_append mt_append (pe_dget hc1 (pv 4) (pv 8) (fun _ _ => rfl)) (pa_cons (pv 16) pa_nil)))
          (pss_one (ps_set (i := 15) nd rfl (.inl rfl) (pv 8)))))))
        (pss_cons (ps_if (pt_cmpR op_eq (pv 11) pe_str (nomark _))
          (pss_one (ps_set (i := 2) nd rfl (.inl rfl) (pe_sortLam (par := "_law_name") hr TB rfl hm hu (by rfl) M.sorted (lamP_by (sc := defScope sDriven) (by decide +kernel)) (pv 2) (pk_dict (j := 13) rfl (by decide +kernel) (by decide +kernel) (lamP_by (sc := defScope sDriven) (by decide +kernel)) (Or.inr (Or.inl rfl)))))) pss_nil)
        (pss_cons (ps_expr (pe_bm PySem.F.plainAttrs_list PySem.F.slot_list_append PySem.F.type_list_append mt_append (pv 6) (pa_cons (pe_callTy call_list_of (by rfl) M.list (by decide +kernel) (pa_cons (pv 2) pa_nil)) pa_nil)))
        (pss_one (ps_expr (pe_bm PySem.F.plainAttrs_list PySem.F.slot_list_append PySem.F.type_list_append mt_append (pv 7) (pa_cons (pv 14) pa_nil))))))))))
      (pss_one (ps_ret (pe_tup (pa_cons (pv 4) (pa_cons (pv 6) (pa_cons (pv 7) pa_nil))))))))), ?_⟩
    have ndn : (names cars).Nodup := CO.nd
    obtain ⟨ts, c1, c2, c3⟩ := hC
    obtain ⟨us, u1, u2, u3⟩ := hS
    have hzip : (cars.map (·.start)).length = (ts.map V.ref).length := by rw [List.length_map, List.length_map, c2]
    refine ⟨_, rfl, ca, ts.map V.ref, cars.map (·.start), rfl, .inr (SqT.of c1), hzip, hT, fun H2 e2 i x kk hx hkk => ?_, fun H2 D e2 T2 fD => ?_⟩
    · rw [List.getElem?_map] at hx hkk
      obtain ⟨t, ht, rfl⟩ := Option.map_eq_some_iff.mp hx
      obtain ⟨c, hc, rfl⟩ := Option.map_eq_some_iff.mp hkk
      exact ⟨t, c.vs, rfl, SqT.of (ExtN.tup e2 (c3 i t c ht hc)), rfl⟩
    obtain ⟨sp, esp, hsp, hnm⟩ := sort_pairs c2 ndn
    rw [esp]
    have e3 : ExtN H (upd H2 D (.lst (sp.map fun q => V.ref q.2))) := fun b o e n => by rw [upd_ne (ne_of_none (e2 b o e n) fD)]; exact e2 b o e n
    have T3 : Tabs T (upd H2 D (.lst (sp.map fun q => V.ref q.2))) := T2.ext fun b o e => by rw [upd_ne (ne_of_none e fD)]; exact e
    have hD3 : upd H2 D (.lst (sp.map fun q => V.ref q.2)) D = some (.lst (sp.map fun q => V.ref q.2)) := upd_same
    generalize upd H2 D (.lst (sp.map fun q => V.ref q.2)) = H3 at e3 T3 hD3 ⊢
    refine ⟨D, rfl, ⟨_, SqL.of hD3⟩, fun O hO => ?_⟩
    refine lc_it walk_list (fun i H1 => Same H3 H1 ∧ H1 O = some (.lst (((sp.take i).map fun q => q.1.name).map V.str)))
      ⟨fun b o e => by rw [upd_ne (ne_of_none e hO)]; exact e, upd_same⟩ (fun i H1 _ ⟨k1, _⟩ => SqL.of (k1 _ _ hD3)) ?_ ?_
    · rintro i y H1 H4 hi ⟨k1, hO1⟩ ⟨e, hy⟩
      subst e
      obtain ⟨q, hq, rfl⟩ : ∃ q, sp[i]? = some q ∧ y = V.ref q.2 := by
        rw [List.getElem?_map] at hy
        obtain ⟨t, z1, z2⟩ := Option.map_eq_some_iff.mp hy
        exact ⟨t, z1, z2.symm⟩
      have hmz := hsp q (List.mem_of_getElem? hq)
      obtain ⟨j, hj⟩ := List.mem_iff_getElem?.mp hmz
      obtain ⟨hj1, hj2⟩ := List.getElem?_zip_eq_some.mp hj
      have hqt := k1 _ _ (ExtN.tup e3 (c3 j q.2 q.1 hj2 hj1))
      have hsl : sp.length ≤ 1000 := by
        have h1 := congrArg List.length hnm
        rw [List.length_map, (pl0_perm cars).length_eq] at h1
        unfold names at h1
        rw [List.length_map] at h1
        have := CO.few
        omega
      refine ⟨rfl, yes_of ?_⟩
      refine ⟨_, rfl, q.2, _, _, _, rfl, rfl, SqT.of hqt, rfl, _, hO1, ?_, fun b o e => by rw [upd_ne (ne_of_none e hO)]; exact k1 _ _ e, ?_⟩
      · rw [List.length_map, List.length_map, List.length_take]
        exact small1000 (by omega)
      · rw [upd_same, tk1 hq, List.map_append, List.map_append]
        rfl
    · rintro H1 ⟨k1, hO1⟩
      rw [List.length_map, List.take_length, hnm] at hO1
      have e4 : ExtN H H1 := e3.trans (ExtN.same k1)
      have T4 := T3.ext k1
      clear k1 hD3 T3 e3 hO hsp hnm esp e2 T2 fD
      intro TK hTK
      have S1 := same_new hTK (.dK [])
      have hTK1 : upd H1 TK (.dK []) TK = some (.dK []) := upd_same
      have nwTK : New H TK := New.ext e4 (New.of hTK)
      have e5 := e4.trans (ExtN.same S1)
      have T5 := T4.ext S1
      have hO5 := S1 _ _ hO1
      generalize upd H1 TK (.dK []) = H5 at S1 hTK1 e5 T5 hO5 ⊢
      clear S1 hTK e4 T4 hO1
      intro PD hPD
      have S1 := same_new hPD (.dK [])
      have hPD1 : upd H5 PD (.dK []) PD = some (.dK []) := upd_same
      have nTP : TK ≠ PD := ne_of_none hTK1 hPD
      have nwPD : New H PD := New.ext e5 (New.of hPD)
      have e6 := e5.trans (ExtN.same S1)
      have T6 := T5.ext S1
      have hO6 := S1 _ _ hO5
      have hTK6 := S1 _ _ hTK1
      generalize upd H5 PD (.dK []) = H6 at S1 hPD1 e6 T6 hO6 hTK6 ⊢
      clear S1 hPD hTK1 e5 T5 hO5
      refine ⟨_, rfl, O, _, rfl, .inl (SqL.of hO6), fun Oc hOc => ?_⟩
      have S1 := same_new hOc (.lst ((pl0 cars).ord.map V.str))
      have hOc1 : upd H6 Oc (.lst ((pl0 cars).ord.map V.str)) Oc = some (.lst ((pl0 cars).ord.map V.str)) := upd_same
      have e7 := e6.trans (ExtN.same S1)
      have T7 := T6.ext S1
      have hO7 := S1 _ _ hO6
      have hTK7 := S1 _ _ hTK6
      have hPD7 := S1 _ _ hPD1
      generalize upd H6 Oc (.lst ((pl0 cars).ord.map V.str)) = H7 at S1 hOc1 e7 T7 hO7 hTK7 hPD7 ⊢
      clear S1 hOc e6 T6 hO6 hTK6 hPD1
      refine ⟨by show 1 ≤ sizeLine; decide, fun OD hOD => ?_⟩
      have S1 := same_new hOD (.lst [V.ref Oc])
      have hOD1 : upd H7 OD (.lst [V.ref Oc]) OD = some (.lst [V.ref Oc]) := upd_same
      have nwOD : New H OD := New.ext e7 (New.of hOD)
      have e8 := e7.trans (ExtN.same S1)
      have T8 := T7.ext S1
      have hO8 := S1 _ _ hO7
      have hTK8 := S1 _ _ hTK7
      have hPD8 := S1 _ _ hPD7
      have hOc8 := S1 _ _ hOc1
      generalize upd H7 OD (.lst [V.ref Oc]) = H8 at S1 hOD1 e8 T8 hO8 hTK8 hPD8 hOc8 ⊢
      clear S1 hOD e7 T7 hO7 hTK7 hPD7 hOc1
      refine ⟨Nat.zero_le _, fun LD hLD => ?_⟩
      have S1 := same_new hLD (.lst [])
      have hLD1 : upd H8 LD (.lst []) LD = some (.lst []) := upd_same
      have nwLD : New H LD := New.ext e8 (New.of hLD)
      have nOL : O ≠ LD := ne_of_none hO8 hLD
      have nOcL : Oc ≠ LD := ne_of_none hOc8 hLD
      have e9 := e8.trans (ExtN.same S1)
      have T9 := T8.ext S1
      have hO9 := S1 _ _ hO8
      have hTK9 := S1 _ _ hTK8
      have hPD9 := S1 _ _ hPD8
      have hOc9 := S1 _ _ hOc8
      have hOD9 := S1 _ _ hOD1
      generalize upd H8 LD (.lst []) = H9 at S1 hLD1 e9 T9 hO9 hTK9 hPD9 hOc9 hOD9 ⊢
      clear S1 hLD e8 T8 hO8 hTK8 hPD8 hOc8 hOD1
      refine ⟨by show 4 ≤ sizeLine; decide, fun t0 ht0 => ?_⟩
      have S1 := same_new ht0 (.tup [.ref TK, .ref PD, .ref OD, .ref LD])
      refine ⟨t0, _, rfl, SqT.of upd_same, rfl, _, _, rfl, _, _, rfl, _, _, rfl, _, _, rfl, rfl, ?_⟩
      have eA := e9.trans (ExtN.same S1)
      have TA := T9.ext S1
      have hOA := S1 _ _ hO9
      have hTKA := S1 _ _ hTK9
      have hPDA := S1 _ _ hPD9
      have hOcA := S1 _ _ hOc9
      have hODA := S1 _ _ hOD9
      have hLDA := S1 _ _ hLD1
      show tSeq _ _ _ _ (upd H9 t0 (.tup [.ref TK, .ref PD, .ref OD, .ref LD]))
      generalize upd H9 t0 (.tup [.ref TK, .ref PD, .ref OD, .ref LD]) = HA at S1 eA TA hOA hTKA hPDA hOcA hODA hLDA ⊢
      clear S1 ht0 e9 T9 hO9 hTK9 hPD9 hOc9 hOD9 hLD1
      have htz : (ts.map V.ref).length = cars.length := by rw [List.length_map, c2]
      have h10 : cars.length ≤ 10 := CO.few
      refine ⟨_, rfl, ca, rfl, ⟨_, SqT.of (ExtN.tup eA c1)⟩, for_it walk_tup
        (fun j σ H1 => ∃ v8 v9 v10 ds, σ = [some (.ref sa), some (.ref ca), some (.ref O), none, some (.ref TK), some (.ref PD), some (.ref OD), some (.ref LD), v8, v9, v10, none, none, none, none, none, none] ∧
          ExtN H H1 ∧ Tabs T H1 ∧ H1 O = some (.lst ((pl0 cars).ord.map V.str)) ∧ H1 Oc = some (.lst ((pl0 cars).ord.map V.str)) ∧ H1 OD = some (.lst [V.ref Oc]) ∧ H1 LD = some (.lst []) ∧
          (∃ kt, H1 TK = some (.dK kt) ∧ kt.length ≤ j ∧ ∀ (q : Nat) (c : Car) (d : Addr), cars[q]? = some c → ds[q]? = some d → valV kt (Sum.inr c.name : Key) = some (.ref d)) ∧
          (∃ kp, H1 PD = some (.dK kp) ∧ kp.length ≤ j ∧ ∀ c ∈ cars.take j, valV kp (Sum.inr c.name : Key) = some (.int c.pace)) ∧
          ds.length = j ∧ ds.Nodup ∧ (∀ d ∈ ds, New H d) ∧ ∀ (q : Nat) (c : Car) (d : Addr), cars[q]? = some c → ds[q]? = some d → H1 d = some (.lst [.int c.start]))
        ⟨none, none, none, [], rfl, eA, TA, hOA, hOcA, hODA, hLDA, ⟨[], hTKA, Nat.le_refl _, fun q c d _ e => by simp at e⟩, ⟨[], hPDA, Nat.le_refl _, fun c hc => by simp at hc⟩, rfl, by simp, fun d hd => absurd hd (by simp), fun q c d _ e => absurd e (by simp)⟩
        (fun j σ H1 _ ⟨_, _, _, _, _, e1, _⟩ => SqT.of (ExtN.tup e1 c1)) ?_ ?_⟩
      · rintro j y σ H1 H2 hj ⟨v8, v9, v10, ds, rfl, e1, T1, hO1, hOc1, hOD1, hLD1, ⟨kt, hkt, lkt, vkt⟩, ⟨kp, hkp, lkp, vkp⟩, dl, dn, dnew, dv⟩ ⟨e, hy⟩
        subst e
        obtain ⟨t, ht, rfl⟩ : ∃ t, ts[j]? = some t ∧ y = V.ref t := by
          rw [List.getElem?_map] at hy
          obtain ⟨t, z1, z2⟩ := Option.map_eq_some_iff.mp hy
          exact ⟨t, z1, z2.symm⟩
        have hic : j < cars.length := by rw [htz] at hj; exact hj
        obtain ⟨c, hc⟩ : ∃ c, cars[j]? = some c := ⟨_, List.getElem?_eq_getElem hic⟩
        have hct := ExtN.tup e1 (c3 j t c ht hc)
        refine ⟨t, _, rfl, SqT.of hct, rfl, _, _, rfl, _, _, rfl, _, _, rfl, rfl, ?_⟩
        refine ⟨_, rfl, by show 1 ≤ sizeLine; decide, fun d hd => ?_⟩
        have S1 := same_new hd (.lst [V.int c.start])
        have hd1 : upd H2 d (.lst [V.int c.start]) d = some (.lst [V.int c.start]) := upd_same
        have nwd : New H d := New.ext e1 (New.of hd)
        have ndd : d ∉ ds := fun z => by
          obtain ⟨q, hq⟩ := List.mem_iff_getElem?.mp z
          have hq2 : q < cars.length := by
            have := (List.getElem?_eq_some_iff.mp hq).1
            omega
          rw [dv q _ d (List.getElem?_eq_getElem hq2) hq] at hd
          cases hd
        generalize upd H2 d (.lst [V.int c.start]) = H3 at S1 hd1 ⊢
        refine ⟨_, rfl, by show 2 ≤ sizeLine; decide, fun tt htt => ?_⟩
        have S2 := S1.trans (same_new htt (.tup [V.ref d, V.int c.pace]))
        have hd4 := (same_new htt (.tup [V.ref d, V.int c.pace])) _ _ hd1
        have htt4 : upd H3 tt (.tup [V.ref d, V.int c.pace]) tt = some (.tup [V.ref d, V.int c.pace]) := upd_same
        generalize upd H3 tt (.tup [V.ref d, V.int c.pace]) = H4 at S2 hd4 htt4 ⊢
        have hkt4 := S2 _ _ hkt
        have hkp4 := S2 _ _ hkp
        have zT : kt.length < sizeLine := small1000 (by omega)
        have zP : kp.length < sizeLine := small1000 (by omega)
        refine ⟨tt, _, rfl, SqT.of htt4, rfl, _, _, rfl, _, rfl, _, rfl, TK, _, rfl, DPut.k (k := (Sum.inr c.name : Key)) hkt4 zT, _, _, rfl, _, rfl, _, rfl, PD, _, rfl, DPut.k (k := (Sum.inr c.name : Key)) (by rw [upd_ne nTP.symm]; exact hkp4) zP, rfl, ?_⟩
        have kp5 : ∀ b o, H4 b = some o → b ≠ TK → b ≠ PD → upd (upd H4 TK (.dK (putK kt (Sum.inr c.name : Key) (.ref d)))) PD (.dK (putK kp (Sum.inr c.name : Key) (.int c.pace))) b = some o := fun b o e n1 n2 => by
          rw [upd_ne n2, upd_ne n1]
          exact e
        have kl5 : ∀ b xs, H4 b = some (.lst xs) → upd (upd H4 TK (.dK (putK kt (Sum.inr c.name : Key) (.ref d)))) PD (.dK (putK kp (Sum.inr c.name : Key) (.int c.pace))) b = some (.lst xs) := fun b xs e => kp5 b _ e (ne_of e hkt4 (by intro z; cases z)) (ne_of e hkp4 (by intro z; cases z))
        have hT5 : upd (upd H4 TK (.dK (putK kt (Sum.inr c.name : Key) (.ref d)))) PD (.dK (putK kp (Sum.inr c.name : Key) (.int c.pace))) TK = some (.dK (putK kt (Sum.inr c.name : Key) (.ref d))) := by rw [upd_ne nTP, upd_same]
        have hP5 : upd (upd H4 TK (.dK (putK kt (Sum.inr c.name : Key) (.ref d)))) PD (.dK (putK kp (Sum.inr c.name : Key) (.int c.pace))) PD = some (.dK (putK kp (Sum.inr c.name : Key) (.int c.pace))) := upd_same
        refine ⟨_, _, _, ds ++ [d], rfl, fun b o e n => ?_, ?_, kl5 _ _ (S2 _ _ hO1), kl5 _ _ (S2 _ _ hOc1), kl5 _ _ (S2 _ _ hOD1), kl5 _ _ (S2 _ _ hLD1), ⟨_, hT5, Nat.le_trans (length_putK _ _ _) (by omega), fun q c' d' h1 h2 => ?_⟩, ⟨_, hP5, Nat.le_trans (length_putK _ _ _) (by omega), fun c' hc' => ?_⟩, by rw [List.length_append, dl]; rfl, ?_, fun d' hd' => ?_, fun q c' d' h1 h2 => ?_⟩
        · exact kp5 b o (S2 _ _ (e1 b o e n)) (nwTK b o e n) (nwPD b o e n)
        · intro p hp
          obtain ⟨ps, z1, z2, z3⟩ := T1 p hp
          refine ⟨ps, kp5 _ _ (S2 _ _ z1) (ne_of z1 hkt (by intro z; cases z)) (ne_of z1 hkp (by intro z; cases z)), z2, fun pos cv hcv => ?_⟩
          obtain ⟨cc, y1, y2⟩ := z3 pos cv hcv
          exact ⟨cc, y1, kp5 _ _ (S2 _ _ y2) (ne_of y2 hkt (by intro z; unfold CodeO at z; cases z)) (ne_of y2 hkp (by intro z; unfold CodeO at z; cases z))⟩
        · rw [valV_putS]
          rcases snoc_get h2 with h2 | ⟨hq, rfl⟩
          · have hqj : q < j := by
              have := (List.getElem?_eq_some_iff.mp h2).1
              omega
            have hne : ¬ c'.name = c.name := fun z => by
              have a1 : (names cars)[q]? = some c.name := by unfold names; rw [List.getElem?_map, h1]; exact congrArg some z
              have a2 : (names cars)[j]? = some c.name := by unfold names; rw [List.getElem?_map, hc]; rfl
              have := nd_ix ndn a1 a2
              omega
            rw [if_neg hne]
            exact vkt q c' d' h1 h2
          · rw [dl] at hq
            subst hq
            rw [hc] at h1
            cases h1
            rw [if_pos rfl]
        · rw [valV_putS]
          rw [tk1 hc] at hc'
          rcases List.mem_append.mp hc' with hc' | hc'
          · have hne : ¬ c'.name = c.name := fun z => take_new ndn hc (by rw [← z]; exact List.mem_map.mpr ⟨c', hc', rfl⟩)
            rw [if_neg hne]
            exact vkp c' hc'
          · rw [List.mem_singleton.mp hc', if_pos rfl]
        · rw [List.nodup_append]
          refine ⟨dn, by simp, fun x hx z hz => ?_⟩
          rw [List.mem_singleton.mp hz]
          exact fun w => ndd (w ▸ hx)
        · rcases List.mem_append.mp hd' with hd' | hd'
          · exact dnew d' hd'
          · rw [List.mem_singleton.mp hd']
            exact nwd
        · rcases snoc_get h2 with h2 | ⟨hq, rfl⟩
          · exact kl5 _ _ (S2 _ _ (dv q c' d' h1 h2))
          · rw [dl] at hq
            subst hq
            rw [hc] at h1
            cases h1
            exact kl5 _ _ hd4
      · rintro σ HB ⟨v8, v9, v10, ds, rfl, eB, TB2, hOB, hOcB, hODB, hLDB, ⟨kt, hkt, lkt, vkt⟩, ⟨kp, hkp, lkp, vkp⟩, dl, dn, dnew, dv⟩
        rw [htz] at dl lkt lkp vkp
        rw [List.take_length] at vkp
        have et0 : ∀ n, tkl secs cars 0 n = [startOf cars n] := fun n => rfl
        have D0 : DrS T H HB secs cars 0 (tkl secs cars 0) TK PD OD LD ds [Oc] [] := by
          refine ⟨eB, TB2, ⟨kt, hkt, vkt⟩, dl, fun q c d h1 h2 => ?_, fun n => by rw [et0]; simp, dn, dnew, ⟨kp, hkp, vkp⟩, hODB, rfl, fun k d h => ?_, nwOD, hLDB, rfl, fun k d h => by simp at h, nwLD, fun d hd => ?_⟩
          · rw [et0, startOf_car ndn (List.mem_of_getElem? h1)]
            exact dv q c d h1 h2
          · have : k = 0 ∧ Oc = d := by
              cases k with
              | zero => exact ⟨rfl, by simpa using h⟩
              | succ k => simp at h
            obtain ⟨rfl, rfl⟩ := this
            exact hOcB
          · rw [List.mem_singleton.mp hd]
            exact nOcL
        have huz : (us.map V.ref).length = secs.length := by rw [List.length_map, u2]
        refine ⟨_, rfl, sa, rfl, ⟨_, SqL.of (ExtN.lst eB u1)⟩, for_it walk_list
          (fun i σ H1 => ∃ v8 v9 v10 v11 v12 v13 v14 v15 v16 O' os ls, σ = [some (.ref sa), some (.ref ca), some (.ref O'), none, some (.ref TK), some (.ref PD), some (.ref OD), some (.ref LD), v8, v9, v10, v11, v12, v13, v14, v15, v16] ∧
            DrS T H H1 secs cars i (tkl secs cars i) TK PD OD LD ds os ls ∧ H1 O' = some (.lst ((plcC secs cars i).ord.map V.str)) ∧ O' ≠ LD)
          ⟨_, _, _, _, _, _, _, _, _, O, [Oc], [], rfl, D0, hOB, nOL⟩ (fun i σ H1 _ ⟨_, _, _, _, _, _, _, _, _, _, _, _, _, D1, _⟩ => SqL.of (ExtN.lst D1.ext u1)) ?_ ?_⟩
        · rintro i y σ H1 H2 hi ⟨v8, v9, v10, v11, v12, v13, v14, v15, v16, O', os, ls, rfl, D1, hO1, nO1⟩ ⟨e, hy⟩
          subst e
          obtain ⟨t, ht, rfl⟩ : ∃ t, us[i]? = some t ∧ y = V.ref t := by
            rw [List.getElem?_map] at hy
            obtain ⟨t, z1, z2⟩ := Option.map_eq_some_iff.mp hy
            exact ⟨t, z1, z2.symm⟩
          have hic : i < secs.length := by rw [huz] at hi; exact hi
          obtain ⟨sec, hsec⟩ : ∃ s, secs[i]? = some s := ⟨_, List.getElem?_eq_getElem hic⟩
          have htv := ExtN.tup D1.ext (u3 i t sec ht hsec)
          have eN : plcC secs cars (i + 1) = stepP (paceOf cars) (plcC secs cars i) sec := plc_succ (paceOf cars) (pl0 cars) secs hsec
          have eL : ∀ n, ldrC secs cars i n = leadP (paceOf cars) (plcC secs cars i) sec n := fun n => by
            show ldr (paceOf cars) (pl0 cars) secs i n = _
            unfold ldr
            rw [hsec]
          have hperm := plcC_perm secs cars i
          have hndo : (plcC secs cars i).ord.Nodup := hperm.nodup_iff.mpr ndn
          have hcar : ∀ n ∈ (plcC secs cars i).ord, ∃ (q : Nat) (c : Car) (d : Addr), cars[q]? = some c ∧ ds[q]? = some d ∧ c.name = n := fun n hn => by
            obtain ⟨c, hc, e⟩ := List.mem_map.mp (hperm.mem_iff.mp hn)
            obtain ⟨q, hq⟩ := List.mem_iff_getElem?.mp hc
            obtain ⟨d, hd⟩ : ∃ d, ds[q]? = some d := ⟨_, List.getElem?_eq_getElem (by rw [D1.dl]; exact (List.getElem?_eq_some_iff.mp hq).1)⟩
            exact ⟨q, c, d, hq, hd, e⟩
          have hol : (plcC secs cars i).ord.length ≤ 10 := by
            rw [hperm.length_eq]
            unfold names
            rw [List.length_map]
            exact h10
          have hlast := fun n => tkl_last secs cars i n
          have hwt := fun n hn => wrows_tick (paceOf cars) (plcC secs cars i) sec hndo (n := n) hn
          have hwl := fun n => wrows_lead (paceOf cars) (plcC secs cars i) sec n
          refine ⟨t, _, rfl, SqT.of htv, rfl, _, _, rfl, _, _, rfl, rfl, ?_⟩
          intro Fr hFr
          have S1 := same_new hFr (.dK [])
          have hFr1 : upd H2 Fr (.dK []) Fr = some (.dK []) := upd_same
          obtain ⟨kt, hkt, vkt⟩ := D1.tk
          obtain ⟨kp, hkp, vkp⟩ := D1.pd
          have nTF : TK ≠ Fr := ne_of_none hkt hFr
          have nPF : PD ≠ Fr := ne_of_none hkp hFr
          have nOF : O' ≠ Fr := ne_of_none hO1 hFr
          generalize upd H2 Fr (.dK []) = H3 at S1 hFr1 ⊢
          intro G hG
          have S2 := S1.trans (same_new hG (.dK []))
          have hG1 : upd H3 G (.dK []) G = some (.dK []) := upd_same
          have nFG : Fr ≠ G := ne_of_none hFr1 hG
          have nTG : TK ≠ G := ne_of_none (S1 _ _ hkt) hG
          have nPG : PD ≠ G := ne_of_none (S1 _ _ hkp) hG
          have nlG : ∀ d ∈ ls, d ≠ G := fun d hd => by
            obtain ⟨q, hq⟩ := List.mem_iff_getElem?.mp hd
            obtain ⟨kv, a, b⟩ := D1.lv q d hq
            exact ne_of_none (S1 _ _ a) hG
          have nwG : New H G := New.ext (D1.ext.trans (ExtN.same S1)) (New.of hG)
          have hFr2 := same_new hG (.dK []) _ _ hFr1
          generalize upd H3 G (.dK []) = H4 at S2 hG1 hFr2 ⊢
          refine ⟨by show 3 ≤ sizeLine; decide, fun tt htt => ?_⟩
          have SC := S2.trans (same_new htt (.tup [V.ref Fr, V.ref G, V.non]))
          have hGC := same_new htt (.tup [V.ref Fr, V.ref G, V.non]) _ _ hG1
          have hFC := same_new htt (.tup [V.ref Fr, V.ref G, V.non]) _ _ hFr2
          refine ⟨tt, _, rfl, SqT.of upd_same, rfl, _, _, rfl, _, _, rfl, _, _, rfl, rfl, ?_⟩
          show tSeq _ _ _ _ (upd H4 tt (.tup [V.ref Fr, V.ref G, V.non]))
          generalize upd H4 tt (.tup [V.ref Fr, V.ref G, V.non]) = HC at SC hGC hFC ⊢
          clear S1 S2 hFr1 hG1 hFr2 hG htt
          have hOC := SC _ _ hO1
          have hktC := SC _ _ hkt
          have hkpC := SC _ _ hkp
          generalize hfr : freeP (paceOf cars) (plcC secs cars i) sec.2 = fr at *
          have efr : ∀ n, fr n = (plcC secs cars i).tk n + paceOf cars n * ((sec.2 : Nat) : Int) := fun n => by rw [← hfr]; rfl
          generalize hpl : plcC secs cars i = pl at *
          refine ⟨_, rfl, O', rfl, ⟨_, SqL.of hOC⟩, for_it walk_list
            (fun j σ H1 => ∃ v8, σ = [some (.ref sa), some (.ref ca), some (.ref O'), none, some (.ref TK), some (.ref PD), some (.ref OD), some (.ref LD), v8, v9, v10, some (.str (kindS sec.1)), some (.int ((sec.2 : Nat) : Int)), some (.ref Fr), some (.ref G), some .non, v16] ∧
              KeepB Fr HC H1 ∧ ∃ kf, H1 Fr = some (.dK kf) ∧ kf.length ≤ j ∧ ∀ n ∈ pl.ord.take j, valV kf (Sum.inr n : Key) = some (.int (fr n)))
            ⟨v8, rfl, KeepB.refl _ _, [], hFC, Nat.le_refl _, fun n hn => absurd hn (by simp)⟩ (fun j σ H1 _ ⟨_, _, k1, _⟩ => SqL.of (k1 _ _ hOC nOF)) ?_ ?_⟩
          · rintro j y σ H5 H6 hj ⟨v8, rfl, k1, kf, hkf, lkf, vkf⟩ ⟨e, hy⟩
            subst e
            obtain ⟨n, hn, rfl⟩ : ∃ n, pl.ord[j]? = some n ∧ y = V.str n := by
              rw [List.getElem?_map] at hy
              obtain ⟨t, z1, z2⟩ := Option.map_eq_some_iff.mp hy
              exact ⟨t, z1, z2.symm⟩
            obtain ⟨q, c, d, hq, hd, rfl⟩ := hcar n (List.mem_of_getElem? hn)
            have hjo : j < pl.ord.length := (List.getElem?_eq_some_iff.mp hn).1
            have pb := CO.all c (List.mem_of_getElem? hq)
            have hdv := SC _ _ (D1.dv q c d hq hd)
            have hdv2 := k1 _ _ hdv (ne_of hdv hFC (by intro z; cases z))
            obtain ⟨l0, hl0⟩ := hlast c.name
            rw [hl0, List.map_append] at hdv2
            refine ⟨_, rfl, _, rfl, TK, _, rfl, gk (k1 _ _ hktC nTF) (vkt q c d hq hd), _, rfl, d, _, _, .int (pl.tk c.name), rfl, rfl, SqL.of hdv2, atI_last _ _, _, rfl, _, rfl, PD, _, rfl, gk (k1 _ _ hkpC nPF) (vkp c (List.mem_of_getElem? hq)), _, rfl, _, _, rfl, rfl, .inl ⟨by have := pb.p0; omega, by have := pb.p1; omega⟩, _, _, rfl, rfl, _, rfl, _, rfl, Fr, _, rfl, DPut.k (k := (Sum.inr c.name : Key)) hkf (small1000 (by omega)), ?_⟩
            refine ⟨_, rfl, fun b o e n' => by rw [upd_ne n']; exact k1 _ _ e n', _, upd_same, Nat.le_trans (length_putK _ _ _) (by omega), fun a ha => ?_⟩
            rw [tk1 hn] at ha
            rw [valV_putS]
            by_cases ean : a = c.name
            · rw [if_pos ean, ean, efr, paceOf_car ndn (List.mem_of_getElem? hq)]
            · rw [if_neg ean]
              rcases List.mem_append.mp ha with ha | ha
              · exact vkf a ha
              · exact absurd (List.mem_singleton.mp ha) ean
          · rintro σ H5 ⟨v8', rfl, k1, kf, hkf, lkf, vkf⟩
            have e9 : pl.ord.take (pl.ord.map V.str).length = pl.ord := by rw [List.length_map, List.take_length]
            rw [e9] at vkf
            have SB : Same H2 H5 := fun b o e => k1 _ _ (SC _ _ e) (ne_of_none e hFr)
            have D2 := D1.step (ExtN.same SB) (D1.tabs.ext SB)
            have hG5 := k1 _ _ hGC nFG.symm
            have hO5 := SB _ _ hO1
            clear k1 SB hGC hFC hOC hktC hkpC SC
            refine ⟨_, rfl, O', rfl, ⟨_, SqL.of hO5⟩, for_it walk_list
              (fun j σ H1 => ∃ v8 v16 kG, σ = [some (.ref sa), some (.ref ca), some (.ref O'), none, some (.ref TK), some (.ref PD), some (.ref OD), some (.ref LD), v8, v9, v10, some (.str (kindS sec.1)), some (.int ((sec.2 : Nat) : Int)), some (.ref Fr), some (.ref G), some (aheadV (wrows sec.1 fr (pl.ord.take j))), v16] ∧
                DrS T H H1 secs cars i (gOf (tkl secs cars i) (wrows sec.1 fr (pl.ord.take j))) TK PD OD LD ds os ls ∧ H1 O' = some (.lst (pl.ord.map V.str)) ∧ H1 Fr = some (.dK kf) ∧ H1 G = some (.dK kG) ∧ LdD kG (wrows sec.1 fr (pl.ord.take j)) ∧ kG.length ≤ j)
              ⟨v8', v16, [], rfl, by rw [show wrows sec.1 fr (pl.ord.take 0) = [] from rfl, gOf_nil]; exact D2, hO5, hkf, hG5, fun n => rfl, Nat.le_refl _⟩ (fun j σ H1 _ ⟨_, _, _, _, _, h, _⟩ => SqL.of h) ?_ ?_⟩
            · rintro j y σ H7 H6 hj ⟨v8, v16, kG, rfl, D3, hO6, hF6, hG6, hLd, lkG⟩ ⟨e, hy⟩
              subst e
              obtain ⟨n, hn, rfl⟩ : ∃ n, pl.ord[j]? = some n ∧ y = V.str n := by
                rw [List.getElem?_map] at hy
                obtain ⟨t, z1, z2⟩ := Option.map_eq_some_iff.mp hy
                exact ⟨t, z1, z2.symm⟩
              have hjo : j < pl.ord.length := (List.getElem?_eq_some_iff.mp hn).1
              have hno := List.mem_of_getElem? hn
              obtain ⟨q, c, d, hq, hd, ecn⟩ := hcar n hno
              have enames := wrows_names sec.1 fr (pl.ord.take j)
              have hnew : n ∉ (wrows sec.1 fr (pl.ord.take j)).map (·.1) := by
                rw [enames]
                intro hm
                obtain ⟨j2, hj2⟩ := List.mem_iff_getElem?.mp hm
                have hj3 : j2 < j := by
                  have := (List.getElem?_eq_some_iff.mp hj2).1
                  rw [List.length_take] at this
                  omega
                rw [List.getElem?_take_of_lt hj3] at hj2
                have := nd_ix hndo hj2 hn
                omega
              have hndA : ((wrows sec.1 fr (pl.ord.take j)).map (·.1)).Nodup := by
                rw [enames]
                exact hndo.sublist (List.take_sublist _ _)
              have hsubA : ∀ a ∈ (wrows sec.1 fr (pl.ord.take j)).map (·.1), a ∈ pl.ord := fun a ha => by
                rw [enames] at ha
                exact List.mem_of_mem_take ha
              rw [tk1 hn, wrows_snoc]
              generalize wrows sec.1 fr (pl.ord.take j) = acc at *
              have fin : ∀ (x : Int) (ld : Option Str) (kG' : List (Key × V)) (Hx : Hp), wrow sec.1 fr acc n = (n, x, ld) → DrS T H Hx secs cars i (gOf (tkl secs cars i) acc) TK PD OD LD ds os ls → Hx O' = some (.lst (pl.ord.map V.str)) → Hx Fr = some (.dK kf) → Hx G = some (.dK kG') → LdD kG' (acc ++ [(n, x, ld)]) → kG'.length ≤ j + 1 →
                  ∃ v8 v16 kG, ([some (.ref sa), some (.ref ca), some (.ref O'), none, some (.ref TK), some (.ref PD), some (.ref OD), some (.ref LD), some (.str n), v9, v10, some (.str (kindS sec.1)), some (.int ((sec.2 : Nat) : Int)), some (.ref Fr), some (.ref G), some (.str n), some (.int x)] : L2.St) = [some (.ref sa), some (.ref ca), some (.ref O'), none, some (.ref TK), some (.ref PD), some (.ref OD), some (.ref LD), v8, v9, v10, some (.str (kindS sec.1)), some (.int ((sec.2 : Nat) : Int)), some (.ref Fr), some (.ref G), some (aheadV (acc ++ [wrow sec.1 fr acc n])), v16] ∧
                    DrS T H (upd Hx d (.lst ((gOf (tkl secs cars i) acc n).map V.int ++ [.int x]))) secs cars i (gOf (tkl secs cars i) (acc ++ [wrow sec.1 fr acc n])) TK PD OD LD ds os ls ∧ (upd Hx d (.lst ((gOf (tkl secs cars i) acc n).map V.int ++ [.int x]))) O' = some (.lst (pl.ord.map V.str)) ∧ (upd Hx d (.lst ((gOf (tkl secs cars i) acc n).map V.int ++ [.int x]))) Fr = some (.dK kf) ∧ (upd Hx d (.lst ((gOf (tkl secs cars i) acc n).map V.int ++ [.int x]))) G = some (.dK kG) ∧ LdD kG (acc ++ [wrow sec.1 fr acc n]) ∧ kG.length ≤ j + 1 := fun x ld kG' Hx ew DX hOx hFx hGx hLx lx => by
                rw [ew]
                obtain ⟨tk1', tk2'⟩ := DX.tickKeep hq hd (.lst ((gOf (tkl secs cars i) acc n).map V.int ++ [.int x]))
                refine ⟨some (.str n), some (.int x), kG', ?_, ?_, tk2' _ _ hOx, tk1' _ _ hFx fun _ z => (nomatch z), tk1' _ _ hGx fun _ z => (nomatch z), hLx, lx⟩
                · have : aheadV (acc ++ [(n, x, ld)]) = .str n := by
                    unfold aheadV
                    rw [List.getLast?_append]
                    rfl
                  rw [this]
                · have := DX.tick ndn hq hd x
                  rw [ecn] at this
                  rw [← gOf_snoc (tkl secs cars i) acc (n, x, ld) hnew]
                  exact this
              have hdn := D3.dv q c d hq hd
              rw [ecn] at hdn
              obtain ⟨kt3, hkt3, vkt3⟩ := D3.tk
              have vn := vkt3 q c d hq hd
              rw [ecn] at vn
              have gsz : (gOf (tkl secs cars i) acc n).length ≤ 100 := by
                unfold gOf
                rw [look_none hnew, List.append_nil]
                unfold tkl
                rw [List.length_map, List.length_range]
                have := SO.few
                omega
              have zD : ((gOf (tkl secs cars i) acc n).map V.int).length < sizeLine := by rw [List.length_map]; exact small1000 (by omega)
              refine ⟨_, rfl, _, rfl, Fr, _, rfl, gk hF6 (vkf n hno), ?_⟩
              refine ⟨_, rfl, rfl, _, rfl, ?_⟩
              have ek : decide (V.str (kindS sec.1) = V.str "narrow") = !sec.1 := by cases sec.1 <;> decide +kernel
              rw [ek]
              cases hw : sec.1 with
              | true =>
                refine iteF ?_
                refine iteF ?_
                have ew : wrow sec.1 fr acc n = (n, fr n, none) := by unfold wrow; rw [hw]; rfl
                refine ⟨_, rfl, _, rfl, TK, _, rfl, gk hkt3 vn, .inl ⟨rfl, _, SqL.of hdn⟩, _, rfl, d, _, _, rfl, rfl, hdn, zD, _, rfl, ?_⟩
                have z := fin (fr n) none kG H6 ew D3 hO6 hF6 hG6 (hLd.skip (r := (n, fr n, none)) hnew rfl) (by omega)
                rw [hw] at z
                exact z
              | false =>
                refine iteT ?_
                cases hl : acc.getLast? with
                | none =>
                  have eV : aheadV acc = .non := by unfold aheadV; rw [hl]
                  have ew : wrow sec.1 fr acc n = (n, fr n, none) := by
                    unfold wrow
                    rw [hw]
                    show fnext fr acc n = _
                    unfold fnext
                    rw [hl]
                  rw [eV]
                  refine ⟨_, rfl, _, rfl, ?_⟩
                  rw [show (!decide (V.non = V.non)) = false by simp]
                  refine iteF ?_
                  refine iteF ?_
                  refine ⟨_, rfl, _, rfl, TK, _, rfl, gk hkt3 vn, .inl ⟨rfl, _, SqL.of hdn⟩, _, rfl, d, _, _, rfl, rfl, hdn, zD, _, rfl, ?_⟩
                  have z := fin (fr n) none kG H6 ew D3 hO6 hF6 hG6 (hLd.skip (r := (n, fr n, none)) hnew rfl) (by omega)
                  rw [hw] at z
                  exact z
                | some r =>
                  obtain ⟨a, t, l⟩ := r
                  have eV : aheadV acc = .str a := by unfold aheadV; rw [hl]
                  have la := look_last hndA hl
                  have hao : a ∈ pl.ord := hsubA a (List.mem_map.mpr ⟨_, List.mem_of_getLast? hl, rfl⟩)
                  obtain ⟨qa, ca', da, hqa, hda, eca⟩ := hcar a hao
                  have hav := D3.dv qa ca' da hqa hda
                  rw [eca, gOf_in la, List.map_append] at hav
                  have va := vkt3 qa ca' da hqa hda
                  rw [eca] at va
                  rw [eV]
                  refine ⟨_, rfl, _, rfl, ?_⟩
                  rw [show (!decide (V.str a = V.non)) = true by simp]
                  refine iteT ?_
                  refine ⟨_, rfl, _, rfl, TK, _, rfl, gk hkt3 va, _, rfl, da, _, _, .int t, rfl, rfl, SqL.of hav, atI_last _ _, _, rfl, _, _, rfl, rfl, _, rfl, ?_⟩
                  by_cases hcmp : fr n < t
                  · rw [decide_eq_true hcmp]
                    refine iteT ?_
                    have ew : wrow sec.1 fr acc n = (n, t, some (l.getD a)) := by
                      unfold wrow
                      rw [hw]
                      show fnext fr acc n = _
                      unfold fnext
                      rw [hl]
                      exact if_pos hcmp
                    have gG : valV kG (Sum.inr a : Key) = l.map V.str := by rw [hLd a, la]; rfl
                    have eg : ((l.map V.str).getD (.str a)) = V.str (l.getD a) := by cases l <;> rfl
                    have l3 := length_putK kG (Sum.inr n : Key) (.str (l.getD a))
                    refine ⟨_, rfl, _, rfl, TK, _, rfl, gk hkt3 va, _, rfl, da, _, _, .int t, rfl, rfl, SqL.of hav, atI_last _ _, ?_⟩
                    refine ⟨_, rfl, G, rfl, .inl ⟨_, .inl hG6⟩, _, rfl, _, rfl, _, gk0 hG6 gG, ?_⟩
                    rw [eg]
                    refine ⟨_, rfl, _, rfl, G, _, rfl, DPut.k (k := (Sum.inr n : Key)) hG6 (small1000 (by omega)), ?_⟩
                    have D4 := D3.dict hG6 nTG nPG nlG nwG (putK kG (Sum.inr n : Key) (.str (l.getD a)))
                    have kl : ∀ b xs, H6 b = some (.lst xs) → upd H6 G (.dK (putK kG (Sum.inr n : Key) (.str (l.getD a)))) b = some (.lst xs) := fun b xs e => by rw [upd_ne (ne_of e hG6 (by intro z; cases z))]; exact e
                    refine ⟨_, rfl, _, rfl, TK, _, rfl, gk (by rw [upd_ne nTG]; exact hkt3) vn, .inl ⟨rfl, _, SqL.of (kl _ _ hdn)⟩, _, rfl, d, _, _, rfl, rfl, kl _ _ hdn, zD, _, rfl, ?_⟩
                    have z := fin t (some (l.getD a)) _ _ ew D4 (kl _ _ hO6) (by rw [upd_ne nFG]; exact hF6) upd_same (hLd.put (r := (n, t, some (l.getD a))) hnew rfl) (by omega)
                    rw [hw] at z
                    exact z
                  · rw [decide_eq_false hcmp]
                    refine iteF ?_
                    have ew : wrow sec.1 fr acc n = (n, fr n, none) := by
                      unfold wrow
                      rw [hw]
                      show fnext fr acc n = _
                      unfold fnext
                      rw [hl]
                      exact if_neg hcmp
                    refine ⟨_, rfl, _, rfl, TK, _, rfl, gk hkt3 vn, .inl ⟨rfl, _, SqL.of hdn⟩, _, rfl, d, _, _, rfl, rfl, hdn, zD, _, rfl, ?_⟩
                    have z := fin (fr n) none kG H6 ew D3 hO6 hF6 hG6 (hLd.skip (r := (n, fr n, none)) hnew rfl) (by omega)
                    rw [hw] at z
                    exact z
            · rintro σ H6 ⟨v8'', v16', kG, rfl, D3, hO6, hF6, hG6, hLd, lkG⟩
              rw [e9] at D3 hLd
              have D4 : DrS T H H6 secs cars i (tkl secs cars (i + 1)) TK PD OD LD ds os ls := by
                refine D3.congr (fun c hc => ?_) fun n => ?_
                · have hcn : c.name ∈ pl.ord := hperm.mem_iff.mpr (List.mem_map.mpr ⟨c, hc, rfl⟩)
                  obtain ⟨x, hx, ex⟩ := hwt c.name hcn
                  rw [gOf_in hx, tkl_succ, eN, ex]
                · rw [tkl_succ]
                  simp
              have hled : ∀ n, valV kG (Sum.inr n : Key) = (ldrC secs cars i n).map V.str := fun n => by
                rw [hLd n, lead_map, hwl n, eL n]
              refine ⟨_, rfl, rfl, _, rfl, ?_⟩
              have ek : decide (V.str (kindS sec.1) = V.str "wide") = sec.1 := by cases sec.1 <;> decide +kernel
              rw [ek]
              have zO : (os.map V.ref).length < sizeLine := by rw [List.length_map, D4.ol]; have := SO.few; exact small1000 (by omega)
              have zL : (ls.map V.ref).length < sizeLine := by rw [List.length_map, D4.ll]; have := SO.few; exact small1000 (by omega)
              have fin : ∀ (Hx : Hp) (O2 Oc2 : Addr), ExtN H6 Hx → Tabs T Hx → Hx O2 = some (.lst ((plcC secs cars (i + 1)).ord.map V.str)) → O2 ≠ LD → Hx Oc2 = none →
                  DrS T H (upd (upd (upd Hx Oc2 (.lst ((plcC secs cars (i + 1)).ord.map V.str))) OD (.lst (os.map V.ref ++ [.ref Oc2]))) LD (.lst (ls.map V.ref ++ [.ref G]))) secs cars (i + 1) (tkl secs cars (i + 1)) TK PD OD LD ds (os ++ [Oc2]) (ls ++ [G]) ∧
                  (upd (upd (upd Hx Oc2 (.lst ((plcC secs cars (i + 1)).ord.map V.str))) OD (.lst (os.map V.ref ++ [.ref Oc2]))) LD (.lst (ls.map V.ref ++ [.ref G]))) O2 = some (.lst ((plcC secs cars (i + 1)).ord.map V.str)) ∧ O2 ≠ LD ∧
                  (upd Hx Oc2 (.lst ((plcC secs cars (i + 1)).ord.map V.str))) OD = some (.lst (os.map V.ref)) ∧ (upd (upd Hx Oc2 (.lst ((plcC secs cars (i + 1)).ord.map V.str))) OD (.lst (os.map V.ref ++ [.ref Oc2]))) LD = some (.lst (ls.map V.ref)) := fun Hx O2 Oc2 ex Tx hO2 nO2 hOc2 => by
                have DX := D4.step ex Tx
                have Sx := same_new hOc2 (.lst ((plcC secs cars (i + 1)).ord.map V.str))
                have nLc : LD ≠ Oc2 := ne_of_none DX.ld hOc2
                have DY := DX.step (ExtN.same Sx) (DX.tabs.ext Sx)
                have hGx := Sx _ _ (ExtN.dK ex hG6)
                exact ⟨DY.put upd_same nLc.symm hGx hled, DY.putStr (Sx _ _ hO2) nO2 _ _, nO2, DY.od, by rw [upd_ne DY.nOL.symm]; exact DY.ld⟩
              cases hw : sec.1 with
              | true =>
                have eo : (plcC secs cars (i + 1)).ord = sortBy fr pl.ord := by
                  rw [eN]
                  unfold stepP
                  rw [hw, hfr]
                  rfl
                rw [eo] at fin
                refine iteT ?_
                refine ⟨_, rfl, O', pl.ord.map V.str, pl.ord.map fr, rfl, .inl (SqL.of hO6), by simp, D4.tabs, fun Hy e i' x kk hx hkk => ?_, fun Hy Dn ey Ty fD => ?_⟩
                · rw [List.getElem?_map] at hx hkk
                  obtain ⟨n, hn, rfl⟩ := Option.map_eq_some_iff.mp hx
                  rw [hn] at hkk
                  cases hkk
                  exact ⟨Fr, kf, .inr n, rfl, .inl (ExtN.dK e hF6), rfl, vkf n (List.mem_of_getElem? hn)⟩
                have es : (isort ((pl.ord.map fr).zip (pl.ord.map V.str))).map (·.2) = (sortBy fr pl.ord).map V.str := by
                  rw [zip_self, isort_map, List.map_map]
                  unfold sortBy
                  rw [List.map_map]
                  rfl
                rw [es]
                have Sd := same_new fD (.lst ((sortBy fr pl.ord).map V.str))
                have hDn : upd Hy Dn (.lst ((sortBy fr pl.ord).map V.str)) Dn = some (.lst ((sortBy fr pl.ord).map V.str)) := upd_same
                have ez := ey.trans (ExtN.same Sd)
                have Tz := Ty.ext Sd
                have nDn : Dn ≠ LD := (ne_of_none (ExtN.lst ey D4.ld) fD).symm
                generalize upd Hy Dn (.lst ((sortBy fr pl.ord).map V.str)) = Hx at Sd hDn ez Tz ⊢
                have DX := D4.step ez Tz
                refine ⟨_, rfl, .inl ⟨rfl, _, SqL.of DX.od⟩, _, rfl, Dn, _, rfl, .inl (SqL.of hDn), fun Oc2 hOc2 => ?_⟩
                obtain ⟨f1, f2, f3, f4, f5⟩ := fin Hx Dn Oc2 ez Tz hDn nDn hOc2
                refine ⟨OD, _, _, rfl, rfl, f4, zO, ?_⟩
                refine ⟨_, rfl, .inl ⟨rfl, _, SqL.of f5⟩, _, rfl, LD, _, _, rfl, rfl, f5, zL, ?_⟩
                exact ⟨_, _, _, _, _, _, _, _, _, Dn, os ++ [Oc2], ls ++ [G], rfl, f1, by rw [eo]; exact f2, f3⟩
              | false =>
                have eo : (plcC secs cars (i + 1)).ord = pl.ord := by
                  rw [eN]
                  unfold stepP
                  rw [hw]
                  rfl
                rw [eo] at fin
                refine iteF ?_
                refine ⟨_, rfl, .inl ⟨rfl, _, SqL.of D4.od⟩, _, rfl, O', _, rfl, .inl (SqL.of hO6), fun Oc2 hOc2 => ?_⟩
                obtain ⟨f1, f2, f3, f4, f5⟩ := fin H6 O' Oc2 (fun _ _ z _ => z) D4.tabs hO6 nO1 hOc2
                refine ⟨OD, _, _, rfl, rfl, f4, zO, ?_⟩
                refine ⟨_, rfl, .inl ⟨rfl, _, SqL.of f5⟩, _, rfl, LD, _, _, rfl, rfl, f5, zL, ?_⟩
                exact ⟨_, _, _, _, _, _, _, _, _, O', os ++ [Oc2], ls ++ [G], rfl, f1, by rw [eo]; exact f2, f3⟩
        · rintro σ H1 ⟨v8, v9, v10, v11, v12, v13, v14, v15, v16, O', os, ls, rfl, D1, hO1, nO1⟩
          rw [huz] at D1
          refine ⟨_, rfl, _, rfl, _, rfl, by show 3 ≤ sizeLine; decide, fun t ht => ?_⟩
          have S1 := same_new ht (.tup [V.ref TK, V.ref OD, V.ref LD])
          have D2 := D1.step (ExtN.same S1) (D1.tabs.ext S1)
          refine k _ t TK OD LD D2.ext D2.tabs upd_same ?_ ⟨os, D2.od, D2.ol, D2.ov⟩ ⟨ls, D2.ld, D2.ll, D2.lv⟩
          obtain ⟨kt', a1, a2⟩ := D2.tk
          refine ⟨kt', a1, fun c hc => ?_⟩
          obtain ⟨q, hq⟩ := List.mem_iff_getElem?.mp hc
          obtain ⟨d, hd⟩ : ∃ d, ds[q]? = some d := ⟨_, List.getElem?_eq_getElem (by rw [D2.dl]; exact (List.getElem?_eq_some_iff.mp hq).1)⟩
          exact ⟨d, a2 q c d hq hd, D2.dv q c d hq hd⟩
end
end Sl

set_option Elab.async false
set_option linter.all false
set_option maxRecDepth 100000
set_option maxHeartbeats 1000000
namespace Sl
open PySem PySem.Spec L2 OwnR LamX
theorem foll_ge (fr : Str → Int) (ord : List Str) : ∀ r ∈ foll fr ord, fr r.1 ≤ r.2.1 := by
  have h : ∀ (l : List Str) (acc : List (RowT Str)), (∀ r ∈ acc, fr r.1 ≤ r.2.1) → ∀ r ∈ l.foldl (fun acc n => acc ++ [fnext fr acc n]) acc, fr r.1 ≤ r.2.1 := by
    intro l
    induction l with
    | nil => intro acc h; exact h
    | cons n q ih =>
      intro acc h
      rw [List.foldl_cons]
      refine ih _ fun r hr => ?_
      rcases List.mem_append.mp hr with hr | hr
      · exact h r hr
      · rw [List.mem_singleton.mp hr]
        unfold fnext
        split
        · exact Int.le_refl _
        · split
          · rename_i z
            exact Int.le_of_lt z
          · exact Int.le_refl _
  exact h ord [] (fun r hr => nomatch hr)
theorem tick_ge (pace : Str → Int) (p : Pl Str) (s : Sec) {n : Str} (hn : n ∈ p.ord) : freeP pace p s.2 n ≤ (stepP pace p s).tk n := by
  unfold stepP
  cases hw : s.1 with
  | true => exact Int.le_refl _
  | false =>
    show freeP pace p s.2 n ≤ tickOf (foll (freeP pace p s.2) p.ord) n
    obtain ⟨x, hx⟩ := look_some (acc := foll (freeP pace p s.2) p.ord) (n := n) (by rw [foll_names]; exact hn)
    have h2 := hx
    unfold look at h2
    obtain ⟨r, hr, e⟩ := Option.map_eq_some_iff.mp h2
    have hm := List.mem_of_find?_eq_some hr
    have hn2 : r.1 = n := by simpa using List.find?_some hr
    have := foll_ge (freeP pace p s.2) p.ord r hm
    unfold tickOf
    rw [hx, ← e]
    rw [hn2] at this
    exact this
theorem reach_ge {secs : List Sec} {cars : List Car} (CO : CarsOk cars) {c : Car} (hc : c ∈ cars) : ∀ k, k ≤ secs.length → startOf cars c.name + c.pace * ((((secs.take k).map (·.2)).sum : Nat) : Int) ≤ (plcC secs cars k).tk c.name
  | 0, _ => by
    show startOf cars c.name + c.pace * (((0 : Nat)) : Int) ≤ startOf cars c.name
    simp
  | k + 1, h => by
    have ih := reach_ge (secs := secs) CO hc k (by omega)
    have hkl : k < secs.length := by omega
    obtain ⟨s, hs⟩ : ∃ s, secs[k]? = some s := ⟨_, List.getElem?_eq_getElem hkl⟩
    have eN : plcC secs cars (k + 1) = stepP (paceOf cars) (plcC secs cars k) s := plc_succ (paceOf cars) (pl0 cars) secs hs
    have hm : c.name ∈ (plcC secs cars k).ord := (plcC_perm secs cars k).mem_iff.mpr (List.mem_map.mpr ⟨c, hc, rfl⟩)
    have hg := tick_ge (paceOf cars) (plcC secs cars k) s hm
    rw [eN]
    refine Int.le_trans ?_ hg
    unfold freeP
    rw [tk1 hs, List.map_append, List.sum_append, paceOf_car CO.nd hc]
    have e1 : ((((List.map (·.2) (secs.take k)).sum + (List.map (·.2) [s]).sum : Nat)) : Int) = (((List.map (·.2) (secs.take k)).sum : Nat) : Int) + ((s.2 : Nat) : Int) := by simp
    rw [e1, Int.mul_add]
    omega
theorem loss_nonneg {secs : List Sec} {cars : List Car} (CO : CarsOk cars) {c : Car} (hc : c ∈ cars) : 0 ≤ lossOf secs cars c := by
  have h := reach_ge (secs := secs) CO hc secs.length (Nat.le_refl _)
  rw [List.take_length] at h
  unfold lossOf unitsN
  omega
/-! ### what the law has at hand -/
structure LawF (CR C : Addr) (H : Hp) (p l a dv tk od ld : Addr) (secs : List Sec) (cars : List Car) : Prop where
  rd : RoadAt CR H p secs
  rn : RunsAt H l secs
  cr : CarsAt H a cars
  da : DA C H dv secs cars
  tk : TksAt H tk secs cars
  od : OrdsAt H od secs cars
  ld : LdsAt H ld secs cars
theorem LawF.same {CR C : Addr} {H H' : Hp} {p l a dv tk od ld : Addr} {secs : List Sec} {cars : List Car} (F : LawF CR C H p l a dv tk od ld secs cars) (e : Same H H') : LawF CR C H' p l a dv tk od ld secs cars where
  rd := F.rd.ext (ExtN.same e)
  rn := F.rn.ext (ExtN.same e)
  cr := F.cr.ext (ExtN.same e)
  da := F.da.ext (ExtN.same e)
  tk := let ⟨kt, a, b⟩ := F.tk; ⟨kt, e _ _ a, fun c hc => let ⟨d, x, y⟩ := b c hc; ⟨d, x, e _ _ y⟩⟩
  od := let ⟨os, a, b, c⟩ := F.od; ⟨os, e _ _ a, b, fun k d h => e _ _ (c k d h)⟩
  ld := let ⟨ls, a, b, c⟩ := F.ld; ⟨ls, e _ _ a, b, fun k d h => let ⟨kv, x, y⟩ := c k d h; ⟨kv, e _ _ x, y⟩⟩
/-- an instance is called -/
def InsH (H : Hp) (a C : Addr) : Prop := (∃ dx vs, SlX.Slt H a C dx vs) ∨ ∃ dx fs, H a = some (.ins C dx fs)
def tCallH (C : Addr) (sp : Sp) (E : XK) (tf : TE) (t : TA) : TE := fun σ H Q => tf σ H fun y H1 => ∃ a, y = V.ref a ∧ t σ H1 fun vs H2 => InsH H2 a C ∧ sp (V.ref a :: vs) H2 Q E
theorem pe_callH {X : Cx} {CX : CXT} {k : Nat} {C : Addr} {sp : Sp} {E : XK} {e fe : Expr} {es : List Expr} {tf : TE} {t : TA} {pos : Pos} {g : Addr} (hf : PE X fe tf) (c : StX.CallO X.K C g) (F : FnR X.prog X.w X.K X.mg X.base CX k g sp) (hr : Room k X.A) (hx : Passes CX X E) (ha : PA X (e :: es) t)
    (ht : eval (.Call fe (e :: es) [] pos) X.env = (do callWith pos (← eval fe X.env) [] (backTo pos (starEach (e :: es) X.env)) (backToKw pos (keywordEach [] X.env))) := by rfl)
    (he : starEach (e :: es) X.env = (false, eval e X.env) :: starEach es X.env := by rfl) (hpl : (backTo pos (starEach es X.env)).any (·.1) = false := by rfl) : PE X (.Call fe (e :: es) [] pos) (tCallH C sp E tf t) := StX.pe_callO hf c F hr hx ha ht he hpl
end Sl

set_option Elab.async false
set_option linter.all false
set_option maxRecDepth 100000
set_option maxHeartbeats 1000000
namespace Sl
open PySem PySem.Spec L2 OwnR LamX
/-! ### what the law compares, as data -/
def NamesOk (cars : List Car) : Prop := ∀ n ∈ names cars, PyData.strOk n = true
theorem namesOk {cars : List Car} (CO : CarsOk cars) : NamesOk cars := fun n hn => by
  obtain ⟨c, hc, rfl⟩ := List.mem_map.mp hn
  obtain ⟨_, _, h⟩ := (CO.all c hc).nm
  unfold PyData.strOk
  rw [Array.all_eq_true_iff_forall_mem]
  intro x hx
  have := h x (by rw [Array.mem_toList_iff]; exact hx)
  simp
  omega
def intsD (l : List Int) : PyData := .list (l.map PyData.int)
theorem shp_intsD (l : List Int) : Shp 1 (intsD l) := shp_list fun d hd => by
  obtain ⟨i, _, rfl⟩ := List.mem_map.mp hd
  exact shp_int i
theorem dp_ints {K : PySem.W.Frag} {H : Hp} {a : Addr} {l : List Int} (h : H a = some (.lst (l.map V.int))) : Dp K H (.ref a) (intsD l) := .lst (SqL.of h) (dp_vals V.int PyData.int (fun i => .int i) l)
def strsD (l : List Str) : PyData := .list (l.map PyData.str)
theorem shp_strsD {l : List Str} (h : ∀ n ∈ l, PyData.strOk n = true) : Shp 1 (strsD l) := shp_list fun d hd => by
  obtain ⟨i, hi, rfl⟩ := List.mem_map.mp hd
  exact shp_str (h i hi)
theorem dp_strs {K : PySem.W.Frag} {H : Hp} {a : Addr} {l : List Str} (h : H a = some (.lst (l.map V.str))) : Dp K H (.ref a) (strsD l) := .lst (SqL.of h) (dp_vals V.str PyData.str (fun i => .str i) l)
def optD : Option Str → PyData
  | some s => .str s
  | none => .none
theorem dp_opt {K : PySem.W.Frag} {H : Hp} (o : Option Str) : Dp K H (strO o) (optD o) := by
  cases o with
  | none => exact .non
  | some s => exact .str s
def optsD (l : List (Option Str)) : PyData := .list (l.map optD)
theorem shp_optsD {l : List (Option Str)} (h : ∀ n, some n ∈ l → PyData.strOk n = true) : Shp 1 (optsD l) := shp_list fun d hd => by
  obtain ⟨o, ho, rfl⟩ := List.mem_map.mp hd
  cases o with
  | none => exact shp_non
  | some s => exact shp_str (h s ho)
theorem dp_opts {K : PySem.W.Frag} {H : Hp} {a : Addr} {l : List (Option Str)} (h : H a = some (.lst (l.map strO))) : Dp K H (.ref a) (optsD l) := .lst (SqL.of h) (dp_vals strO optD dp_opt l)
/-- leaders are cars -/
theorem foll_lead (fr : Str → Int) (ord : List Str) : ∀ r ∈ foll fr ord, ∀ m, r.2.2 = some m → m ∈ ord := by
  have h : ∀ (l : List Str) (pre : List Str) (acc : List (RowT Str)), acc.map (·.1) = pre → (∀ r ∈ acc, ∀ m, r.2.2 = some m → m ∈ pre) → ∀ r ∈ l.foldl (fun acc n => acc ++ [fnext fr acc n]) acc, ∀ m, r.2.2 = some m → m ∈ pre ++ l := by
    intro l
    induction l with
    | nil => intro pre acc _ h; simpa using h
    | cons n q ih =>
      intro pre acc e h
      rw [List.foldl_cons]
      have := ih (pre ++ [n]) (acc ++ [fnext fr acc n]) (by rw [List.map_append, e]; simp [fnext_name]) fun r hr m hm => by
        rcases List.mem_append.mp hr with hr | hr
        · exact List.mem_append_left _ (h r hr m hm)
        · rw [List.mem_singleton.mp hr] at hm
          refine List.mem_append_left _ ?_
          unfold fnext at hm
          split at hm
          · cases hm
          · rename_i a t lo hl
            have hmem := List.mem_of_getLast? hl
            split at hm
            · have hm : some (lo.getD a) = some m := hm
              have hm := Option.some.inj hm
              cases lo with
              | none =>
                rw [← hm, ← e]
                exact List.mem_map.mpr ⟨_, hmem, rfl⟩
              | some b =>
                rw [← hm]
                exact h _ hmem b rfl
            · cases hm
      simpa using this
  intro r hr m hm
  have := h ord [] [] rfl (fun r hr => nomatch hr) r hr m hm
  simpa using this
theorem ldrC_in {secs : List Sec} {cars : List Car} {k : Nat} {n m : Str} (h : ldrC secs cars k n = some m) : m ∈ names cars := by
  have h : ldr (paceOf cars) (pl0 cars) secs k n = some m := h
  unfold ldr at h
  cases hs : secs[k]? with
  | none => rw [hs] at h; cases h
  | some s =>
    rw [hs] at h
    have h : leadP (paceOf cars) (plcC secs cars k) s n = some m := h
    unfold leadP at h
    split at h
    · cases h
    · unfold leadOf look at h
      cases q : (foll (freeP (paceOf cars) (plcC secs cars k) s.2) (plcC secs cars k).ord).find? (fun r => decide (r.1 = n)) with
      | none => rw [q] at h; cases h
      | some r =>
        rw [q] at h
        have h : r.2.2 = some m := h
        exact (plcC_perm secs cars k).mem_iff.mp (foll_lead _ _ r (List.mem_of_find?_eq_some q) m h)
theorem ord_ok {secs : List Sec} {cars : List Car} (CO : CarsOk cars) (k : Nat) : ∀ n ∈ (plcC secs cars k).ord, PyData.strOk n = true := fun n hn => namesOk CO n ((plcC_perm secs cars k).mem_iff.mp hn)
def ordsD (secs : List Sec) (cars : List Car) : PyData := .list ((List.range (secs.length + 1)).map fun k => strsD (plcC secs cars k).ord)
theorem shp_ordsD {secs : List Sec} {cars : List Car} (CO : CarsOk cars) : Shp 2 (ordsD secs cars) := shp_list fun d hd => by
  obtain ⟨k, _, rfl⟩ := List.mem_map.mp hd
  exact shp_strsD (ord_ok CO k)
theorem dp_ords {K : PySem.W.Frag} {H : Hp} {a : Addr} {secs : List Sec} {cars : List Car} (h : OrdsAt H a secs cars) : Dp K H (.ref a) (ordsD secs cars) := by
  obtain ⟨os, h1, h2, h3⟩ := h
  refine .lst (SqL.of h1) (dp_refs (fun k => strsD (plcC secs cars k).ord) (by rw [h2, List.length_range]) fun i b k e1 e2 => ?_)
  have hi : i < secs.length + 1 := by
    have := (List.getElem?_eq_some_iff.mp e1).1
    omega
  rw [List.getElem?_range hi] at e2
  cases e2
  exact dp_strs (h3 i b e1)
end Sl

set_option Elab.async false
set_option linter.all false
set_option maxRecDepth 100000
namespace Sl
open PySem PySem.Spec L2 OwnR LamX
theorem dp_intsT {K : PySem.W.Frag} {H : Hp} {a : Addr} {l : List Int} (h : H a = some (.tup (l.map V.int))) : Dp K H (.ref a) (.tuple (l.map PyData.int)) := .tup (SqT.of h) (dp_vals V.int PyData.int (fun i => .int i) l)
theorem shp_intsT (l : List Int) : Shp 1 (.tuple (l.map PyData.int)) := shp_tuple fun d hd => by
  obtain ⟨i, _, rfl⟩ := List.mem_map.mp hd
  exact shp_int i
theorem eqvAll_ints : ∀ a b : List Int, PyData.eqvAll (a.map PyData.int) (b.map PyData.int) = decide (a = b)
  | [], [] => rfl
  | [], _ :: _ => rfl
  | _ :: _, [] => rfl
  | x :: a, y :: b => by
    show (PyData.eqv (.int x) (.int y) && PyData.eqvAll (a.map PyData.int) (b.map PyData.int)) = _
    rw [eqvAll_ints a b]
    by_cases h : x = y <;> by_cases g : a = b <;> simp [PyData.eqv, h, g]
theorem eqv_intsT (a b : List Int) : PyData.eqv (.tuple (a.map PyData.int)) (.tuple (b.map PyData.int)) = decide (a = b) := eqvAll_ints a b
theorem eqv_intsL (a b : List Int) : PyData.eqv (.list (a.map PyData.int)) (.list (b.map PyData.int)) = decide (a = b) := eqvAll_ints a b
theorem sameNew {H : Hp} {p : Addr} (h : H p = none) (o : HO) : Same H (upd H p o) := same_new h o
theorem RunsAt.ext2 {H H' : Hp} {a : Addr} {secs : List Sec} (h : RunsAt H a secs) (e : ExtN H H') : RunsAt H' a secs := by
  obtain ⟨ts, h1, h2, h3⟩ := h
  exact ⟨ts, ExtN.lst e h1, h2, fun i t s e1 e2 => ExtN.tup e (h3 i t s e1 e2)⟩
theorem TupsAt.ext {H H' : Hp} {a : Addr} {vss : List (List V)} (h : TupsAt H a vss) (e : ExtN H H') : TupsAt H' a vss := by
  obtain ⟨ts, h1, h2, h3⟩ := h
  exact ⟨ts, ExtN.lst e h1, h2, fun i t v e1 e2 => ExtN.tup e (h3 i t v e1 e2)⟩
theorem RoadAt.ext2 {C : Addr} {H H' : Hp} {p : Addr} {secs : List Sec} (h : RoadAt C H p secs) (e : ExtN H H') : RoadAt C H' p secs := by
  obtain ⟨dx, t, u, h1, h2, h3⟩ := h
  exact ⟨dx, t, u, ExtN.ins e h1, h2.ext e, h3⟩
theorem TksAt.ext {H H' : Hp} {tk : Addr} {secs : List Sec} {cars : List Car} (h : TksAt H tk secs cars) (e : ExtN H H') : TksAt H' tk secs cars := let ⟨kt, a, b⟩ := h; ⟨kt, ExtN.dK e a, fun c hc => let ⟨d, x, y⟩ := b c hc; ⟨d, x, ExtN.lst e y⟩⟩
theorem OrdsAt.ext {H H' : Hp} {od : Addr} {secs : List Sec} {cars : List Car} (h : OrdsAt H od secs cars) (e : ExtN H H') : OrdsAt H' od secs cars := let ⟨os, a, b, c⟩ := h; ⟨os, ExtN.lst e a, b, fun k d h => ExtN.lst e (c k d h)⟩
theorem tks_at {H : Hp} {tk : Addr} {secs : List Sec} {cars : List Car} (h : TksAt H tk secs cars) {n : Str} (hn : n ∈ names cars) : ∃ kt d l0, H tk = some (.dK kt) ∧ valV kt (Sum.inr n : Key) = some (.ref d) ∧ H d = some (.lst ((tksL secs cars n).map V.int)) ∧ H d = some (.lst (l0 ++ [V.int ((plcC secs cars secs.length).tk n)])) := by
  obtain ⟨c, hc, rfl⟩ := List.mem_map.mp hn
  obtain ⟨kt, z1, z2⟩ := h
  obtain ⟨d, z3, z4⟩ := z2 c hc
  obtain ⟨l0, hl0⟩ := tkl_last secs cars secs.length c.name
  exact ⟨kt, d, l0.map V.int, z1, z3, z4, by rw [z4, hl0, List.map_append]; rfl⟩
end Sl

set_option Elab.async false
set_option linter.all false
set_option maxRecDepth 100000
set_option maxHeartbeats 2000000
namespace Sl
open PySem PySem.Spec L2 OwnR LamX
/-- sections that are wide, too -/
def widen (secs : List Sec) (ixs : List Nat) : List Sec := secs.mapIdx fun i s => (decide (i ∈ ixs) || s.1, s.2)
theorem widen_get {secs : List Sec} {ixs : List Nat} {i : Nat} {s : Sec} (h : secs[i]? = some s) : (widen secs ixs)[i]? = some (decide (i ∈ ixs) || s.1, s.2) := by
  unfold widen
  rw [List.getElem?_mapIdx, h]
  rfl
theorem widen_len (secs : List Sec) (ixs : List Nat) : (widen secs ixs).length = secs.length := by
  unfold widen
  rw [List.length_mapIdx]
theorem widen_ok {secs : List Sec} (S : SecsOk secs) (ixs : List Nat) : SecsOk (widen secs ixs) where
  ne := fun z => by
    have := congrArg List.length z
    rw [widen_len] at this
    exact S.ne (List.length_eq_zero_iff.mp this)
  few := by rw [widen_len]; exact S.few
  len := fun s hs => by
    obtain ⟨i, hi⟩ := List.mem_iff_getElem?.mp hs
    have il : i < secs.length := by
      have := (List.getElem?_eq_some_iff.mp hi).1
      rw [widen_len] at this
      exact this
    rw [widen_get (List.getElem?_eq_getElem il)] at hi
    rw [← Option.some.inj hi]
    have := S.len secs[i] (List.getElem_mem il)
    exact this
theorem widen_all {secs : List Sec} (h : ∀ s ∈ secs, s.1 = true) (ixs : List Nat) : widen secs ixs = secs := by
  apply List.ext_getElem?
  intro i
  rcases Nat.lt_or_ge i secs.length with lt | ge
  · have e := List.getElem?_eq_getElem lt
    rw [widen_get e, e, h _ (List.getElem_mem lt), Bool.or_true]
    have := h _ (List.getElem_mem lt)
    rw [← this]
  · rw [List.getElem?_eq_none (by rw [widen_len]; exact ge), List.getElem?_eq_none ge]
theorem kindS_true : kindS true = ("wide" : Str) := rfl
theorem in_nats (a : Nat) : ∀ l : List Nat, inV (V.int ((a : Nat) : Int)) (l.map fun n => V.int ((n : Nat) : Int)) = decide (a ∈ l)
  | [] => rfl
  | b :: l => by
    have ih := in_nats a l
    unfold inV at ih ⊢
    rw [List.map_cons, List.any_cons, ih]
    by_cases e : a = b
    · subst e
      simp [eqV]
    · have : ¬ ((a : Nat) : Int) = ((b : Nat) : Int) := by omega
      simp [eqV, e, this]
      intro z
      omega
theorem flat_nats (l : List Nat) : (l.map fun n => V.int ((n : Nat) : Int)).all flatV = true := by
  rw [List.all_map]
  exact List.all_eq_true.mpr fun _ _ => rfl
section
variable {P : Program} {w : World} {K : PySem.W.Frag} {mg : Str → Option Value} {base : Heap}
/-! ### widened -/
def spWid0 (C : Addr) : Sp := fun vs H Q _ => ∃ (p t : Addr) (secs : List Sec) (ixs : List Nat), vs = [.ref p, .ref t] ∧ H t = some (.tup (ixs.map fun n => V.int ((n : Nat) : Int))) ∧ RoadAt C H p secs ∧ SecsOk secs ∧ ixs.length ≤ 1000 ∧ (∀ i ∈ ixs, i < secs.length) ∧
  ∀ H' q, Same H H' → RoadAt C H' q (widen secs ixs) → Q (.ref q) H'
abbrev spWid (C : Addr) : Sp := fun vs H Q E => ∃ ws rest, vs = ws ++ rest ∧ ws.length = (["self"] : List Str).length ∧ rest.length ≤ sizeLine ∧ ∀ p, H p = Option.none → spWid0 C (ws ++ [V.ref p]) (upd H p (.tup rest)) Q E
def nWid : List Str := ["self", "indexes", "index", "sections", "at", "kind", "length"]
theorem scWid : FnScope nWid ["self", "indexes"] (defScope sRWidened) := ⟨rfl, rfl, rfl, by decide +kernel, rfl, by decide +kernel, by decide +kernel⟩
theorem ok_widened {f fI fB C lp kp : Addr} {fd dB : FuncData} (F : Fun K "widened" "Road.widened" sRWidened f fd) (M : Mg mg) (R : RoadT K w mg C lp kp) (MK : Mk K C fI)
    (GI : FnR P w K mg base CX0 3 fI (spRInit C)) (BB : Fb K mg "is_number" sIsNumber ["value", "least", "most"] fB dB) (GB : FnOk P w K mg base CX0 1 fB dB ["value", "least", "most"] spIsNumber) : FnR P w K mg base CX0 5 f (spWid C) := by
  obtain ⟨oc, od, kV, doc, pm, an, cdv, ct, osl, rfl, lk, hcd⟩ := F.ex
  refine StX.fn_star lk hcd scWid StX.cxUp_none (StX.bind_star1 (p1 := "self") (pv := "indexes") (B := fun xs => bindArgs (PySem.W.fnOf "widened" "Road.widened" (defArgs sRWidened) (defBody sRWidened) (defScope sRWidened) .none kV doc pm an cdv ct) ⟨xs, []⟩) (fun _ => rfl) (fun _ _ _ => rfl)) fun A outer s H vs Q E hr h => ?_
  obtain ⟨p, t, secs, ixs, rfl, ht, ⟨dx, at_, u, hp, ⟨ts, a2, a3, a4⟩, hu⟩, S, i1000, hix, k⟩ := h
  have nd := scWid.nd
  have hr1 : Room 1 (A.deeper (PyProof.Rows.envOfC "Road.widened" (defScope sRWidened) s.heap.objs.size f cdv)) := hr.mono (by decide)
  refine ⟨_, PSs.nox (pss_cons (ps_for PassesOwn.never rfl (pi_tup (pv 1)) (pg_name (i := 2) nd rfl (.inl rfl))
      (pss_one (ps_if (pt_not (pt_val (pe_call GB hr1 (by rfl) BB.at_ BB.fn.kp BB.bd .nil pass0 (pa_cons (pv 2) (pa_cons pe_int (pa_cons (pe_op op_sub (pe_callB call_len_seq (by rfl) M.len boot_len (pa_cons (pe_fld (pv 0) rfl) pa_nil)) pe_int) pa_nil)))))) (pss_one ps_never) pss_nil)))
    (pss_cons (ps_setLc (i := 3) (own := [("at", 4), ("kind", 5), ("length", 6)]) (g := gTup K 2 (gCons (gName 4) (gCons (gTup K 2 (gCons (gName 5) (gCons (gName 6) gNil))) gNil))) (tt := tYes) (te := tTup (tCons (tIf (tTest (tOp (rIn K false) (tVar 4) (tVar 1))) (tC (.str "wide")) (tVar 5)) (tCons (tVar 6) tNil))) (by rfl) nd rfl rfl (sw_true rfl rfl rfl (by decide +kernel))
        (pi_enumT (by rfl) M.enumerate (pa_cons (pe_fld (pv 0) rfl) pa_nil)) (blkOk_by (N := nWid) (sc := defScope sRWidened) (by decide +kernel))
        (fun _ _ _ _ _ => pg_tup rfl (pgs_cons (pg_name (i := 4) nd rfl (Or.inl rfl)) (pgs_cons (pg_tup rfl (pgs_cons (pg_name (i := 5) nd rfl (Or.inl rfl)) (pgs_cons (pg_name (i := 6) nd rfl (Or.inl rfl)) pgs_nil))) pgs_nil))) (fun _ _ _ _ _ => pts_nil)
        (fun _ _ _ _ _ => pe_tup (pa_cons (pe_ifExp (pt_cmpR op_in_seq (pv 4) (pv 1) (by rfl)) pe_str (pv 5)) (pa_cons (pv 6) pa_nil))))
    (pss_one (ps_ret (pe_makeGS MK GI hr pass0 (by rfl) R.mgC (pv 3)))))), ?_⟩
  have few := S.few
  have hts : (ts.map V.ref).length = secs.length := by rw [List.length_map, a3]
  refine ⟨_, rfl, t, rfl, ⟨_, SqT.of ht⟩, for_it walk_tup (fun i σ H1 => ∃ v2, σ = [some (.ref p), some (.ref t), v2, none, none, none, none] ∧ Same H H1) ⟨none, rfl, Same.refl H⟩ (fun i σ H1 _ ⟨_, _, s1⟩ => SqT.of (s1 _ _ ht)) ?_ ?_⟩
  · rintro i y σ H1 H2 hi ⟨v2, rfl, s1⟩ ⟨e, hy⟩
    subst e
    obtain ⟨n, hn, rfl⟩ : ∃ n, ixs[i]? = some n ∧ y = V.int ((n : Nat) : Int) := by
      rw [List.getElem?_map] at hy
      obtain ⟨t, z1, z2⟩ := Option.map_eq_some_iff.mp hy
      exact ⟨t, z1, z2.symm⟩
    have nl := hix n (List.mem_of_getElem? hn)
    refine ⟨_, rfl, _, rfl, p, C, dx, _, _, rfl, s1 _ _ hp, R.cl, R.nS, rf_sections _ _, at_, _, rfl, .inr (SqT.of (s1 _ _ a2)), _, _, rfl, rfl, (n : Nat), 0, _, rfl, true, ?_, iteF ⟨_, rfl, s1⟩⟩
    rw [hts]
    rw [decide_eq_true (by omega : (0 : Int) ≤ (n : Int)), decide_eq_true (by omega : (n : Int) ≤ ((secs.length : Nat) : Int) - 1)]
    rfl
  · rintro σ H1 ⟨v2, rfl, s1⟩
    refine ⟨_, rfl, p, C, dx, _, _, rfl, s1 _ _ hp, R.cl, R.nS, rf_sections _ _, at_, _, rfl, SqT.of (s1 _ _ a2), fun D hD => ?_⟩
    have hDH : H D = none := by
      cases q : H D with
      | none => rfl
      | some o => rw [s1 _ _ q] at hD; cases hD
    refine lc_it walk_enumT (fun i H2 => Same H1 H2 ∧ ∃ us : List Addr, H2 D = some (.lst (us.map V.ref)) ∧ us.length = i ∧ ∀ (q : Nat) (t : Addr) (s : Sec), us[q]? = some t → (widen secs ixs)[q]? = some s → H2 t = some (.tup (secV s)))
      ⟨sameNew hD _, [], upd_same, rfl, fun q t c e => by simp at e⟩ (fun i H2 _ ⟨k2, _⟩ => SqT.of (k2 _ _ (s1 _ _ a2))) ?_ ?_
    · rintro i y H2 H3 hi ⟨k2, us, u1, u2, u3⟩ ⟨T, x1, x2, rfl, hT, rfl, e1, e2⟩
      cases e1
      have hic : i < secs.length := by rw [hts] at hi; exact hi
      have e2 : (ts.map V.ref)[i]? = some x2 := e2
      obtain ⟨tt, htt, rfl⟩ : ∃ t, ts[i]? = some t ∧ x2 = V.ref t := by
        rw [List.getElem?_map] at e2
        obtain ⟨t, z1, z2⟩ := Option.map_eq_some_iff.mp e2
        exact ⟨t, z1, z2.symm⟩
      have hc : secs[i]? = some secs[i] := List.getElem?_eq_getElem hic
      have sT := sameNew hT (.tup [V.int ((i : Nat) : Int), V.ref tt])
      have s12 := s1.trans (k2.trans sT)
      have hct := s12 _ _ (a4 i tt _ htt hc)
      have hw := widen_get (ixs := ixs) hc
      refine ⟨T, _, rfl, SqT.of upd_same, rfl, _, _, rfl, _, _, rfl, ⟨tt, _, rfl, SqT.of hct, rfl, _, _, rfl, _, _, rfl, rfl, rfl, rfl, yes_of ?_⟩⟩
      refine ⟨_, rfl, _, rfl, t, _, rfl, .inr (SqT.of (s12 _ _ ht)), rfl, flat_nats ixs, _, rfl, ?_⟩
      show if inV (V.int ((i : Nat) : Int)) (ixs.map fun n => V.int ((n : Nat) : Int)) = true then _ else _
      rw [in_nats]
      have fin : ∀ s' : Sec, (widen secs ixs)[i]? = some s' → ∀ x, (upd H2 T (.tup [V.int ((i : Nat) : Int), V.ref tt])) x = none → ∃ acc, (upd (upd H2 T (.tup [V.int ((i : Nat) : Int), V.ref tt])) x (.tup (secV s'))) D = some (.lst acc) ∧ acc.length < sizeLine ∧ (Same H1 (upd (upd (upd H2 T (.tup [V.int ((i : Nat) : Int), V.ref tt])) x (.tup (secV s'))) D (.lst (acc ++ [.ref x]))) ∧ ∃ us : List Addr, (upd (upd (upd H2 T (.tup [V.int ((i : Nat) : Int), V.ref tt])) x (.tup (secV s'))) D (.lst (acc ++ [.ref x]))) D = some (.lst (us.map V.ref)) ∧ us.length = i + 1 ∧ ∀ (q : Nat) (t : Addr) (s : Sec), us[q]? = some t → (widen secs ixs)[q]? = some s → (upd (upd (upd H2 T (.tup [V.int ((i : Nat) : Int), V.ref tt])) x (.tup (secV s'))) D (.lst (acc ++ [.ref x]))) t = some (.tup (secV s))) := fun s' hs' x hx => by
        have sx := sameNew hx (.tup (secV s'))
        have sTx := sT.trans sx
        have u1' := sTx _ _ u1
        refine ⟨_, u1', by rw [List.length_map, u2]; exact small1000 (by omega), fun b o e => by rw [upd_ne (ne_of_none e hD)]; exact sTx _ _ (k2 _ _ e), us ++ [x], by rw [upd_same, List.map_append]; rfl, by rw [List.length_append, u2]; rfl, fun q t s e1 e2 => ?_⟩
        have key : (upd (upd H2 T (.tup [V.int ((i : Nat) : Int), V.ref tt])) x (.tup (secV s'))) t = some (.tup (secV s)) := by
          rcases snoc_get e1 with e1 | ⟨hq, rfl⟩
          · exact sTx _ _ (u3 q t s e1 e2)
          · rw [u2] at hq
            rw [hq, hs'] at e2
            rw [← Option.some.inj e2]
            exact upd_same
        rw [upd_ne (ne_of key u1' (by intro z; cases z))]
        exact key
      by_cases hm : i ∈ ixs
      · rw [decide_eq_true hm]
        rw [decide_eq_true hm, Bool.true_or] at hw
        refine iteT ⟨_, rfl, by show 2 ≤ sizeLine; decide, fun x hx => ?_⟩
        exact fin _ hw x hx
      · rw [decide_eq_false hm]
        rw [decide_eq_false hm, Bool.false_or] at hw
        refine iteF ⟨_, rfl, _, rfl, by show 2 ≤ sizeLine; decide, fun x hx => ?_⟩
        exact fin _ hw x hx
    · rintro H2 ⟨k2, us, u1, u2, u3⟩
      rw [hts] at u2
      have W := widen_ok S ixs
      have wl := widen_len secs ixs
      refine ⟨rfl, _, rfl, D, us.map V.ref, rfl, .inr (SqL.of u1), fun x dx' hx hdx ne => ?_⟩
      refine ⟨[.ref x], us.map V.ref, rfl, rfl, by rw [List.length_map, u2]; exact Nat.le_of_lt (small1000 (by omega)), fun t' ht' => ?_⟩
      have hxt : x ≠ t' := fun z => by
        rw [← z, upd_same] at ht'
        cases ht'
      have old : ∀ b o, H2 b = some o → (upd (upd (upd H2 dx' (.own x)) x (.ins C dx' [])) t' (.tup (us.map V.ref))) b = some o := fun b o e => by
        have e2 : (upd (upd H2 dx' (.own x)) x (.ins C dx' [])) b = some o := by
          rw [upd_ne (ne_of_none e hx), upd_ne (ne_of_none e hdx)]
          exact e
        rw [upd_ne (ne_of_none e2 ht')]
        exact e2
      refine ⟨x, dx', t', widen secs ixs, rfl, by rw [upd_ne hxt, upd_same], ⟨us, upd_same, by rw [u2, wl], fun i a s e1 e2 => old _ _ (u3 i a s e1 e2)⟩, W, fun H4 uu kp hX huu => ⟨rfl, ?_⟩⟩
      refine k H4 x (fun b o e => ?_) ⟨dx', t', uu, hX, ⟨us, kp _ _ upd_same hxt.symm, by rw [u2, wl], fun i a s e1 e2 => ?_⟩, huu⟩
      · have e2 := k2 _ _ (s1 _ _ e)
        exact kp b o (old _ _ e2) (ne_of_none e2 hx)
      · have q := u3 i a s e1 e2
        exact kp _ _ (old _ _ q) (ne_of_none q hx)
end
end Sl

set_option Elab.async false
set_option linter.all false
set_option maxRecDepth 100000
set_option maxHeartbeats 2000000
namespace Sl
open PySem PySem.Spec L2 OwnR LamX
theorem mk_drive {CR C : Addr} {T : List (Addr × Str)} {H : Hp} {p a dv dx : Addr} {secs : List Sec} {cars : List Car} (rd : RoadAt CR H p secs) (ct : CarsAt H a cars) (SO : SecsOk secs) (CO : CarsOk cars) (hT : Tabs T H) (hdv : H dv = none) (hdx : H dx = none) {Q : VK} {E : XK}
    (k : ∀ H', ExtN H H' → Tabs T H' → DA C H' dv secs cars → Q .non H') : spDInit CR C T [.ref dv, .ref p, .ref a] (upd (upd H dx (.own dv)) dv (.ins C dx [])) Q E := by
  have S2 : Same H (upd (upd H dx (.own dv)) dv (.ins C dx [])) := fun b o e => by rw [upd_ne (ne_of_none e hdv), upd_ne (ne_of_none e hdx)]; exact e
  exact ⟨H, dv, dx, p, a, secs, cars, rfl, upd_same, S2, hdv, rd, ct, SO, CO, hT, fun H' W DW T' => k H' DW.ext T' ⟨_, _, DW⟩⟩
def arrT (secs : List Sec) (cars : List Car) (n : Str) : Int := (plcC secs cars secs.length).tk n
end Sl

set_option Elab.async false
set_option linter.all false
set_option maxRecDepth 100000
set_option maxHeartbeats 2000000
namespace Sl
open PySem PySem.Spec L2 OwnR LamX
theorem bind_star3 {B : List Value → Sem (List (Str × Value))} {p1 p2 p3 pv : Str} (h0 : ∀ a b c, B [a, b, c] = (newTuple [] >>= fun t => pure [(p1, a), (p2, b), (p3, c), (pv, t)])) (h1 : ∀ a b c r rs, B (a :: b :: c :: r :: rs) = (newTuple (r :: rs) >>= fun t => pure [(p1, a), (p2, b), (p3, c), (pv, t)])) :
    ∀ us rest : List Value, us.length = [p1, p2, p3].length → B (us ++ rest) = (newTuple rest >>= fun t => pure ([p1, p2, p3].zip us ++ [(pv, t)]))
  | [a, b, c], [], _ => h0 a b c
  | [a, b, c], r :: rs, _ => h1 a b c r rs
theorem same_unfreeze {H H' : Hp} {d : Addr} {o u : HO} (hd : H d = some u) (s : Same (upd H d o) H') : Same H (upd H' d u) := fun b x e => by
  by_cases h : b = d
  · rw [h] at e ⊢
    rw [upd_same, ← hd, e]
  · rw [upd_ne h]
    exact s b x (by rw [upd_ne h]; exact e)
/-- the first car that loses more -/
def loseL (secs : List Sec) (cars : List Car) (m : Int) (i : Nat) : List Str := ((cars.take i).filter fun c => decide (m < lossOf secs cars c)).map (·.name)
def loser (secs : List Sec) (cars : List Car) (m : Int) : Option Str := (loseL secs cars m cars.length).head?
/-- what the widenings ask -/
structure Inf63 (P : Program) (w : World) (K : PySem.W.Frag) (mg : Str → Option Value) (base : Heap) (CR C : Addr) (T : List (Addr × Str)) : Prop where
  M : Mg mg
  R : DriveT K mg C
  mgr : ∃ t, mg "GREATEST_LOSS" = some (.int 1000000 t)
  init : ∃ f fd, Mk K C f ∧ Binds K fd ["self", "road", "cars"] [] ∧ FnOk P w K mg base CX0 5 f fd ["self", "road", "cars"] (spDInit CR C T)
  call : ∃ f fd ds, StX.CallO K C f ∧ Binds K fd ["self", "name", "place"] ds ∧ Vals [V.non] ds ∧ FnOk P w K mg base CX0 3 f fd ["self", "name", "place"] (spCallD C)
  losses : ∃ f fd, Fm K C "losses" "Drive.losses" sDLosses ["self"] f fd ∧ FnOk P w K mg base CX0 1 f fd ["self"] (spLosses C)
  cars : ∃ f fd, Fb K mg "check_cars" sCheckCars ["cars"] f fd ∧ FnOk P w K mg base CX0 3 f fd ["cars"] spCheckCars
  num : ∃ f fd, Fb K mg "is_number" sIsNumber ["value", "least", "most"] f fd ∧ FnOk P w K mg base CX0 1 f fd ["value", "least", "most"] spIsNumber
  wid : ∃ f, L2.BMeth K CR "widened" f ∧ FnR P w K mg base CX0 5 f (spWid CR)
section
variable {P : Program} {w : World} {K : PySem.W.Frag} {mg : Str → Option Value} {base : Heap}
theorem rf_no (t : Addr) (u : Str) {m : Str} (h1 : ¬ m = "_sections") (h2 : ¬ m = "_units") : (rf t u).lookup m = none := by
  unfold rf
  rw [lookup_putF, if_neg h2, lookup_putF, if_neg h1]
  rfl
/-! ### first_loser -/
def spFL0 (CR : Addr) (T : List (Addr × Str)) : Sp := fun vs H Q _ => ∃ (p a t : Addr) (secs : List Sec) (cars : List Car) (m : Int) (ixs : List Nat), vs = [.ref p, .ref a, .int m, .ref t] ∧ H t = some (.tup (ixs.map fun n => V.int ((n : Nat) : Int))) ∧ RoadAt CR H p secs ∧ CarsAt H a cars ∧ SecsOk secs ∧ CarsOk cars ∧ Tabs T H ∧ 0 ≤ m ∧ m ≤ 1000000 ∧ ixs.length ≤ 1000 ∧ (∀ i ∈ ixs, i < secs.length) ∧
  ∀ H', ExtN H H' → Tabs T H' → Q (strO (loser (widen secs ixs) cars m)) H'
abbrev spFL (CR : Addr) (T : List (Addr × Str)) : Sp := fun vs H Q E => ∃ ws rest, vs = ws ++ rest ∧ ws.length = (["road", "cars", "most"] : List Str).length ∧ rest.length ≤ sizeLine ∧ ∀ p, H p = Option.none → spFL0 CR T (ws ++ [V.ref p]) (upd H p (.tup rest)) Q E
def nFL : List Str := ["road", "cars", "most", "sections", "losses", "losers", "name", "loss"]
theorem scFL : FnScope nFL ["road", "cars", "most", "sections"] (defScope sFirstLoser) := ⟨rfl, rfl, rfl, by decide +kernel, rfl, by decide +kernel, by decide +kernel⟩
theorem ok_loser {f CR C lp kp : Addr} {fd : FuncData} {T : List (Addr × Str)} (F : Fun K "first_loser" "first_loser" sFirstLoser f fd) (I : Inf63 P w K mg base CR C T) (RR : RoadT K w mg CR lp kp) : FnR P w K mg base CX0 7 f (spFL CR T) := by
  obtain ⟨oc, od0, kV0, doc, pm, an, cdv, ct, osl, rfl, lk, hcd⟩ := F.ex
  refine StX.fn_star lk hcd scFL StX.cxUp_none (bind_star3 (p1 := "road") (p2 := "cars") (p3 := "most") (pv := "sections") (B := fun xs => bindArgs (PySem.W.fnOf "first_loser" "first_loser" (defArgs sFirstLoser) (defBody sFirstLoser) (defScope sFirstLoser) .none kV0 doc pm an cdv ct) ⟨xs, []⟩) (fun _ _ _ => rfl) (fun _ _ _ _ _ => rfl)) fun A outer s H vs Q E hr h => ?_
  obtain ⟨p, a, t, secs, cars, m, ixs, rfl, ht, rd, ctt, SO, CO, T0, m0, m1, i1000, hix, k⟩ := h
  have nd := scFL.nd
  have M := I.M
  have R := I.R
  obtain ⟨_, MG⟩ := I.mgr
  obtain ⟨fI, dI, MI, bI, GI⟩ := I.init
  obtain ⟨fC, dC, BC, GC⟩ := I.cars
  obtain ⟨fB, dB, BB, GB⟩ := I.num
  obtain ⟨fL, dL, BL, GL⟩ := I.losses
  obtain ⟨fW, BW, GW⟩ := I.wid
  have hr1 : Room 1 (A.deeper (PyProof.Rows.envOfC "first_loser" (defScope sFirstLoser) s.heap.objs.size f cdv)) := hr.mono (by decide)
  have hr3 : Room 3 (A.deeper (PyProof.Rows.envOfC "first_loser" (defScope sFirstLoser) s.heap.objs.size f cdv)) := hr.mono (by decide)
  have hr5 : Room 5 (A.deeper (PyProof.Rows.envOfC "first_loser" (defScope sFirstLoser) s.heap.objs.size f cdv)) := hr.mono (by decide)
  refine ⟨_, PSs.nox (pss_cons (ps_expr (pe_call GC hr3 (by rfl) BC.at_ BC.fn.kp BC.bd .nil pass0 (pa_cons (pv 1) pa_nil))) (pss_cons (ps_if (pt_not (pt_val (pe_call GB hr1 (by rfl) BB.at_ BB.fn.kp BB.bd .nil pass0 (pa_cons (pv 2) (pa_cons pe_int (pa_cons (pe_glob (v := .int 1000000) (by rfl) MG ⟨_, rfl⟩) pa_nil)))))) (pss_one ps_never) pss_nil) (pss_cons (ps_set (i := 4) nd rfl (.inl rfl) (pe_meth0 (pe_make MI GI hr (by rfl) R.mgC bI .nil pass0 (pa_cons (pe_methS (pv 0) RR.cl BW GW hr5 pass0 (pv 3)) (pa_cons (pv 1) pa_nil))) R.cl BL.at_ GL hr1 BL.bd .nil pass0)) (pss_cons (ps_lock (ps_setLc (i := 5) (own := [("name", 6), ("loss", 7)]) (g := gTup K 2 (gCons (gName 6) (gCons (gName 7) gNil))) (tt := tTest (tOp (rI0 fun i j => .bl (decide (j < i))) (tVar 7) (tVar 2))) (te := tVar 6) (by rfl) nd rfl rfl (sw_true rfl rfl rfl (by decide +kernel)) (pi_items (pv 4)) (blkOk_by (N := nFL) (sc := defScope sFirstLoser) (by decide +kernel)) (fun _ _ _ _ _ => pg_tup rfl (pgs_cons (pg_name (i := 6) nd rfl (Or.inl rfl)) (pgs_cons (pg_name (i := 7) nd rfl (Or.inl rfl)) pgs_nil))) (fun _ _ _ _ _ => pts_one (pt_cmpR op_gt (pv 7) (pv 2) (nomark _))) (fun _ _ _ _ _ => pv 6))) (pss_one (ps_ret (pe_ifExp (pt_truth (pv 5) (by intro _; rfl)) (pe_ix ix_list (pv 5) pe_int (fun _ _ => rfl)) pe_non))))))), ?_⟩
  have few := CO.few
  have h12 := SO.few
  have noF : ∀ {W : DW} {m : Str}, (¬ m = "_sections") → (¬ m = "_paces") → (¬ m = "_ticks") → (¬ m = "_orders") → (¬ m = "_leaders") → (df5 W.sc W.pd W.lt W.lo W.ll).lookup m = none := fun a b c d e => df5_no _ _ _ _ _ a b c d e
  refine ⟨_, rfl, a, cars, rfl, ctt, CO, fun H1 s1 => ?_⟩
  refine ⟨_, rfl, m, 0, 1000000, rfl, true, by rw [decide_eq_true m0, decide_eq_true m1]; rfl, iteF ?_⟩
  have ht1 := s1 _ _ ht
  have rd1 := rd.ext2 (ExtN.same s1)
  have ct1 := ctt.ext (ExtN.same s1)
  have T1 := T0.ext s1
  have e1 := ExtN.same s1
  clear ht rd ctt T0 s1
  obtain ⟨rdx, rts, ru, r1, r2, r3⟩ := id rd1
  refine ⟨_, rfl, p, rdx, _, rfl, r1, rf_no _ _ (by decide +kernel) (by decide +kernel), fun q hq => ⟨_, rfl, t, ixs.map fun n => V.int ((n : Nat) : Int), rfl, ?_, upd_same, ?_⟩⟩
  · exact SqT.of (sameNew hq (.met _ _) _ _ ht1)
  refine ⟨[.ref p], _, rfl, rfl, by rw [List.length_map]; exact Nat.le_of_lt (small1000 i1000), fun t2 ht2 => ?_⟩
  have sm := (sameNew hq (.met fW p)).trans (sameNew ht2 (.tup (ixs.map fun n => V.int ((n : Nat) : Int))))
  refine ⟨p, t2, secs, ixs, rfl, upd_same, rd1.ext2 (ExtN.same sm), SO, i1000, hix, fun H7 q2 s7 rd7 => ?_⟩
  have s17 := sm.trans s7
  have hW := widen_ok SO ixs
  have hWl := widen_len secs ixs
  generalize widen secs ixs = wsec at *
  refine ⟨_, rfl, fun dw dy hdw hdy ndy => mk_drive rd7 (ct1.ext (ExtN.same s17)) hW CO (T1.ext s17) hdw hdy fun H8 e8 T8 da8 => ⟨rfl, ?_⟩⟩
  have e08 := e1.trans ((ExtN.same s17).trans e8)
  clear rd7 s7 sm ht2 hq rd1 ct1 T1 ht1 r1 r2 r3 s17 e1 e8
  obtain ⟨_, W8, D8⟩ := id da8
  refine ⟨dw, W8.dx, _, rfl, D8.ins, noF (by decide +kernel) (by decide +kernel) (by decide +kernel) (by decide +kernel) (by decide +kernel), dw, wsec, cars, rfl, da8, CO, by omega, fun H9 d s9 hd8 hd => ?_⟩
  have e09 := e08.trans (ExtN.same s9)
  have T9 := T8.ext s9
  clear da8 D8 W8 s9 hd8 T8 e08
  -- losers
  refine ⟨d, _, hd, True.intro, fun od => ?_⟩
  have eln : (lossK wsec cars).length = cars.length := by unfold lossK; rw [List.length_map]
  have hz : upd H9 d (.frz od (.dK (lossK wsec cars))) d = some (.frz od (.dK (lossK wsec cars))) := upd_same
  have hund : ∀ H', Same (upd H9 d (.frz od (.dK (lossK wsec cars)))) H' → Same H9 (upd H' d (.dK (lossK wsec cars))) := fun H' s => same_unfreeze hd s
  generalize upd H9 d (.frz od (.dK (lossK wsec cars))) = Hz at hz hund ⊢
  refine ⟨_, rfl, d, od, _, rfl, hz, fun D hD => ?_⟩
  refine lc_it walk_items (fun i H3 => Same Hz H3 ∧ H3 D = some (.lst ((loseL wsec cars m i).map V.str)))
    ⟨sameNew hD _, upd_same⟩ (fun i H3 _ ⟨q, _⟩ => q _ _ hz) ?_ ?_
  · rintro i y H3 H4 hi ⟨k3, d3⟩ ⟨T', x1, x2, rfl, hT, rfl, e1, e2⟩
    have hic : i < cars.length := by rw [eln] at hi; exact hi
    have hc : cars[i]? = some cars[i] := List.getElem?_eq_getElem hic
    have hk : (lossK wsec cars)[i]? = some (Sum.inr cars[i].name, V.int (lossOf wsec cars cars[i])) := by unfold lossK; rw [List.getElem?_map, hc]; rfl
    have e1 : ((lossK wsec cars)[i]?).map (fun kv => kV kv.1) = some x1 := e1
    have e2 : ((lossK wsec cars)[i]?).map Prod.snd = some x2 := e2
    rw [hk] at e1 e2
    have e1' : x1 = V.str cars[i].name := (Option.some.inj e1).symm
    have e2' : x2 = V.int (lossOf wsec cars cars[i]) := (Option.some.inj e2).symm
    subst e1' e2'
    have sT := k3.trans (sameNew hT (.tup [.str cars[i].name, .int (lossOf wsec cars cars[i])]))
    have d4 := sameNew hT (.tup [.str cars[i].name, .int (lossOf wsec cars cars[i])]) _ _ d3
    refine ⟨T', _, rfl, SqT.of upd_same, rfl, _, _, rfl, _, _, rfl, rfl, rfl, ?_⟩
    generalize upd H3 T' (.tup [.str cars[i].name, .int (lossOf wsec cars cars[i])]) = H5 at sT d4 ⊢
    refine ⟨_, rfl, _, rfl, _, _, rfl, rfl, _, rfl, ?_⟩
    have hs : loseL wsec cars m (i + 1) = loseL wsec cars m i ++ if m < lossOf wsec cars cars[i] then [cars[i].name] else [] := by
      unfold loseL
      rw [tk1 hc, List.filter_append, List.map_append]
      by_cases h : m < lossOf wsec cars cars[i] <;> simp [h]
    have hll : (loseL wsec cars m i).length ≤ 10 := by
      unfold loseL
      rw [List.length_map]
      refine Nat.le_trans (List.length_filter_le _ _) ?_
      rw [List.length_take]
      omega
    rw [hs]
    by_cases h : m < lossOf wsec cars cars[i]
    · rw [decide_eq_true h, if_pos h]
      refine iteT ⟨_, rfl, _, d4, small1000 (by rw [List.length_map]; omega), fun b o e => by rw [upd_ne (ne_of_none e hD)]; exact sT _ _ e, ?_⟩
      rw [upd_same, List.map_append]
      rfl
    · rw [decide_eq_false h, if_neg h, List.append_nil]
      exact iteF ⟨sT, d4⟩
  rintro H3 ⟨k3, d3⟩
  rw [eln] at d3
  refine ⟨k3 _ _ hz, ?_⟩
  have s10 := hund _ k3
  have e10 := e09.trans (ExtN.same s10)
  have T10 := T9.ext s10
  have d10 : upd H3 d (.dK (lossK wsec cars)) D = some (.lst ((loseL wsec cars m cars.length).map V.str)) := by
    rw [upd_ne (ne_of d3 (k3 _ _ hz) (by intro z; cases z))]
    exact d3
  generalize upd H3 d (.dK (lossK wsec cars)) = H10 at e10 T10 d10 ⊢
  have kf := k H10 e10 T10
  refine ⟨_, rfl, _, .inl ⟨_, SqL.of d10, rfl⟩, ?_⟩
  unfold loser at kf
  cases hL : loseL wsec cars m cars.length with
  | nil =>
    rw [hL] at kf
    exact iteF kf
  | cons x r =>
    rw [hL] at kf d10
    refine iteT ⟨_, rfl, D, _, ((0 : Nat) : Int), .str x, rfl, rfl, SqL.of d10, atI_nat rfl, kf⟩
end
end Sl

set_option Elab.async false
set_option linter.all false
set_option maxRecDepth 100000
set_option maxHeartbeats 2000000
namespace Sl
open PySem PySem.Spec L2 OwnR LamX
/-- the narrow sections -/
def isNar (secs : List Sec) (i : Nat) : Bool := (secs[i]?.map fun s => !s.1).getD false
def narL (secs : List Sec) (n : Nat) : List Nat := (List.range n).filter (isNar secs)
theorem narL_succ (secs : List Sec) (n : Nat) : narL secs (n + 1) = narL secs n ++ if isNar secs n = true then [n] else [] := by
  unfold narL
  rw [List.range_succ, List.filter_append]
  cases h : isNar secs n <;> simp [h]
theorem narL_len (secs : List Sec) (n : Nat) : (narL secs n).length ≤ n := by
  have := List.length_filter_le (isNar secs) (List.range n)
  rw [List.length_range] at this
  exact this
theorem narL_lt {secs : List Sec} {n i : Nat} (h : i ∈ narL secs n) : i < n := List.mem_range.mp (List.mem_filter.mp h).1
theorem narL_up (secs : List Sec) (n : Nat) : (narL secs n).Pairwise (· < ·) := List.Pairwise.filter _ List.pairwise_lt_range
/-- longer choices -/
def extN (nar c : List Nat) : List (List Nat) := (nar.filter fun s => c.isEmpty || decide (c.getLastD 0 < s)).map fun s => c ++ [s]
def chs (nar : List Nat) : Nat → List (List Nat)
  | 0 => [[]]
  | k + 1 => (chs nar k).flatMap (extN nar)
theorem chs_in (nar : List Nat) : ∀ k, ∀ c ∈ chs nar k, (∀ x ∈ c, x ∈ nar) ∧ c.length = k
  | 0 => fun c hc => by
    rw [List.mem_singleton.mp hc]
    exact ⟨fun x hx => (nomatch hx), rfl⟩
  | k + 1 => fun c hc => by
    obtain ⟨d, hd, h⟩ := List.mem_flatMap.mp hc
    obtain ⟨v, hv, rfl⟩ := List.mem_map.mp h
    obtain ⟨h1, h2⟩ := chs_in nar k d hd
    refine ⟨fun x hx => ?_, by rw [List.length_append, h2]; rfl⟩
    rcases List.mem_append.mp hx with hx | hx
    · exact h1 x hx
    · rw [List.mem_singleton.mp hx]
      exact (List.mem_filter.mp hv).1
theorem extN_len (nar c : List Nat) : (extN nar c).length ≤ nar.length := by
  unfold extN
  rw [List.length_map]
  exact List.length_filter_le _ _
theorem flat_len (nar : List Nat) : ∀ l : List (List Nat), (l.flatMap (extN nar)).length ≤ l.length * nar.length
  | [] => Nat.zero_le _
  | c :: r => by
    have h1 := extN_len nar c
    have h2 := flat_len nar r
    show (extN nar c ++ r.flatMap (extN nar)).length ≤ _
    rw [List.length_append, List.length_cons, Nat.add_mul, Nat.one_mul]
    omega
theorem chs_len (nar : List Nat) (h7 : nar.length ≤ 7) : ∀ k, (chs nar k).length ≤ 7 ^ k
  | 0 => Nat.le_refl _
  | k + 1 => by
    have h1 := flat_len nar (chs nar k)
    have h2 := chs_len nar h7 k
    show ((chs nar k).flatMap (extN nar)).length ≤ _
    rw [Nat.pow_succ]
    exact Nat.le_trans h1 (Nat.mul_le_mul h2 h7)
theorem chs_take {nar : List Nat} (up : nar.Pairwise (· < ·)) : ∀ k, k ≤ nar.length → nar.take k ∈ chs nar k
  | 0, _ => List.mem_singleton.mpr rfl
  | k + 1, h => by
    have ih := chs_take up k (by omega)
    refine List.mem_flatMap.mpr ⟨_, ih, ?_⟩
    obtain ⟨v, hv⟩ : ∃ v, nar[k]? = some v := ⟨_, List.getElem?_eq_getElem h⟩
    refine List.mem_map.mpr ⟨v, List.mem_filter.mpr ⟨List.mem_of_getElem? hv, ?_⟩, (tk1 hv).symm⟩
    cases k with
    | zero => simp
    | succ j =>
      obtain ⟨u, hu⟩ : ∃ u, nar[j]? = some u := ⟨_, List.getElem?_eq_getElem (by omega)⟩
      have : (nar.take (j + 1)).getLastD 0 = u := by rw [tk1 hu]; simp
      rw [this]
      have hlt : u < v := by
        rw [List.pairwise_iff_getElem] at up
        obtain ⟨h1, e1⟩ := List.getElem?_eq_some_iff.mp hu
        obtain ⟨h2, e2⟩ := List.getElem?_eq_some_iff.mp hv
        have := up j (j + 1) h1 h2 (by omega)
        rw [e1, e2] at this
        exact this
      rw [decide_eq_true hlt, Bool.or_true]
theorem chs_all {nar : List Nat} (up : nar.Pairwise (· < ·)) : nar ∈ chs nar nar.length := by
  have := chs_take up nar.length (Nat.le_refl _)
  rwa [List.take_length] at this
/-! ### on a road all wide no car loses -/
theorem wide_tk (pace : Str → Int) (n : Str) : ∀ (l : List Sec) (p : Pl Str), (∀ s ∈ l, s.1 = true) → (l.foldl (stepP pace) p).tk n = p.tk n + pace n * (((l.map (·.2)).sum : Nat) : Int)
  | [], p, _ => by simp
  | s :: r, p, h => by
    show (r.foldl (stepP pace) (stepP pace p s)).tk n = _
    rw [wide_tk pace n r _ fun x hx => h x (List.mem_cons_of_mem _ hx)]
    have hs := h s List.mem_cons_self
    have e : (stepP pace p s).tk n = p.tk n + pace n * (s.2 : Int) := by
      unfold stepP
      rw [if_pos hs]
      rfl
    rw [e, List.map_cons, List.sum_cons, Int.natCast_add, Int.mul_add]
    omega
theorem wide_loss {secs : List Sec} {cars : List Car} (nd : (names cars).Nodup) (h : ∀ s ∈ secs, s.1 = true) {c : Car} (hc : c ∈ cars) : lossOf secs cars c = 0 := by
  have e := wide_tk (paceOf cars) c.name secs (pl0 cars) h
  unfold lossOf
  have e2 : (plcC secs cars secs.length).tk c.name = (pl0 cars).tk c.name + paceOf cars c.name * (((secs.map (·.2)).sum : Nat) : Int) := by
    rw [← e]
    show (List.foldl (stepP (paceOf cars)) (pl0 cars) (secs.take secs.length)).tk c.name = _
    rw [List.take_length]
  rw [e2, paceOf_car nd hc]
  show startOf cars c.name + c.pace * ((unitsN secs : Nat) : Int) - startOf cars c.name - c.pace * ((unitsN secs : Nat) : Int) = 0
  omega
theorem widen_nar {secs : List Sec} : ∀ s ∈ widen secs (narL secs secs.length), s.1 = true := fun s hs => by
  obtain ⟨i, hi⟩ := List.mem_iff_getElem?.mp hs
  have hil : i < secs.length := by
    have := (List.getElem?_eq_some_iff.mp hi).1
    rwa [widen_len] at this
  have hg : secs[i]? = some secs[i] := List.getElem?_eq_getElem hil
  rw [widen_get hg] at hi
  rw [← Option.some.inj hi]
  show (decide (i ∈ narL secs secs.length) || secs[i].1) = true
  cases q : secs[i].1 with
  | true => rw [Bool.or_true]
  | false =>
    rw [Bool.or_false]
    refine decide_eq_true (List.mem_filter.mpr ⟨List.mem_range.mpr hil, ?_⟩)
    unfold isNar
    rw [hg]
    simp [q]
theorem loser_nar {secs : List Sec} {cars : List Car} (nd : (names cars).Nodup) {m : Int} (m0 : 0 ≤ m) : loser (widen secs (narL secs secs.length)) cars m = none := by
  unfold loser loseL
  have : (cars.take cars.length).filter (fun c => decide (m < lossOf (widen secs (narL secs secs.length)) cars c)) = [] := by
    rw [List.take_length]
    refine List.filter_eq_nil_iff.mpr fun c hc => ?_
    rw [wide_loss nd widen_nar hc]
    simp
    omega
  rw [this]
  rfl
/-- a walk, whatever is done at each step -/
theorem walk_w {J : It} {n : Nat} {G : Hp → Prop} {Y : Nat → Hp → V → Hp → Prop} (w : Walk J n G Y) {St : V → Hp → (Hp → Prop) → Prop} {H0 : Hp} {Qd : Hp → Prop} (Pv : Nat → Hp → Prop) (h0 : Pv 0 H0) (hG : ∀ i H, i ≤ n → Pv i H → G H)
    (hs : ∀ i x H H', i < n → Pv i H → Y i H x H' → St x H' (Pv (i + 1))) (hd : ∀ H, Pv n H → Qd H) :
    ∃ W : Nat → Nat → Hp → Prop, (∃ m, W 0 m H0) ∧ ∀ i m H, W i m H → (J.stop i H ∧ Qd H) ∨ (J.go i H ∧ ∃ Nx : Hp → Prop, (∀ H', Nx H' → ∃ m', m' < m ∧ W (i + 1) m' H') ∧ ∀ x H', J.yld i H x H' → St x H' Nx) := by
  refine ⟨fun i m H => m = n - i ∧ i ≤ n ∧ Pv i H, ⟨n, by simp, Nat.zero_le _, h0⟩, ?_⟩
  rintro i m H ⟨rfl, hi, p⟩
  have q := hG i H hi p
  by_cases hlt : i < n
  · refine .inr ⟨w.goes i H hlt q, Pv (i + 1), fun H' p' => ⟨n - (i + 1), by omega, rfl, hlt, p'⟩, fun x H' y => hs i x H H' hlt p (w.yields i H x H' hlt q y)⟩
  · have e : i = n := by omega
    subst e
    exact .inl ⟨w.stops H q, hd H p⟩
end Sl

set_option Elab.async false
set_option linter.all false
set_option maxRecDepth 100000
set_option maxHeartbeats 2000000
namespace Sl
open PySem PySem.Spec L2 OwnR LamX
section
variable {P : Program} {w : World} {K : PySem.W.Frag} {mg : Str → Option Value} {base : Heap}
/-! ### fewest_widened -/
/-- the choice: the first of the fewest -/
def FewW (secs : List Sec) (cars : List Car) (m : Int) (c : List Nat) : Prop := ∃ k pre post, chs (narL secs secs.length) k = pre ++ c :: post ∧ loser (widen secs c) cars m = none ∧ (∀ d ∈ pre, loser (widen secs d) cars m ≠ none) ∧ ∀ j, j < k → ∀ d ∈ chs (narL secs secs.length) j, loser (widen secs d) cars m ≠ none
theorem take_mid {α : Type} {l : List α} {i : Nat} {c : α} (h : l[i]? = some c) : l = l.take i ++ c :: l.drop (i + 1) := by
  have h2 := List.take_append_drop (i + 1) l
  rw [tk1 h, List.append_assoc] at h2
  exact h2.symm
theorem lastD_snoc (a : List Nat) (x : Nat) : (a ++ [x]).getLastD 0 = x := by simp
def natV (c : List Nat) : List V := c.map fun n => V.int ((n : Nat) : Int)
/-- a list of choices -/
def CAt (H : Hp) (l : Addr) (xs : List (List Nat)) : Prop := ∃ ts : List Addr, H l = some (.lst (ts.map V.ref)) ∧ ts.length = xs.length ∧ ∀ (i : Nat) (t : Addr) (c : List Nat), ts[i]? = some t → xs[i]? = some c → t ≠ l ∧ H t = some (.lst (natV c))
theorem CAt.ext {H H' : Hp} {l : Addr} {xs : List (List Nat)} (h : CAt H l xs) (e : ExtN H H') : CAt H' l xs := by
  obtain ⟨ts, h1, h2, h3⟩ := h
  exact ⟨ts, ExtN.lst e h1, h2, fun i t c e1 e2 => ⟨(h3 i t c e1 e2).1, ExtN.lst e (h3 i t c e1 e2).2⟩⟩
theorem CAt.push {H : Hp} {l t : Addr} {xs : List (List Nat)} {ts : List Addr} (h1 : H l = some (.lst (ts.map V.ref))) (h2 : ts.length = xs.length) (h3 : ∀ (i : Nat) (t : Addr) (c : List Nat), ts[i]? = some t → xs[i]? = some c → t ≠ l ∧ H t = some (.lst (natV c))) {c : List Nat} (n : t ≠ l) (ht : H t = some (.lst (natV c))) :
    CAt (upd H l (.lst (ts.map V.ref ++ [V.ref t]))) l (xs ++ [c]) := by
  refine ⟨ts ++ [t], by rw [upd_same, List.map_append]; rfl, by rw [List.length_append, List.length_append, h2]; rfl, fun i b e e1 e2 => ?_⟩
  have key : b ≠ l ∧ H b = some (.lst (natV e)) := by
    rcases snoc_get e1 with e1 | ⟨hq, rfl⟩
    · have := (List.getElem?_eq_some_iff.mp e1).1
      rw [List.getElem?_append_left (by omega)] at e2
      exact h3 i b e e1 e2
    · rw [List.getElem?_append_right (by omega), hq, h2, Nat.sub_self] at e2
      have : c = e := by simpa using e2
      rw [← this]
      exact ⟨n, ht⟩
  exact ⟨key.1, by rw [upd_ne key.1]; exact key.2⟩
theorem natV_len (c : List Nat) : (natV c).length = c.length := List.length_map _
theorem natV_app (c d : List Nat) : natV (c ++ d) = natV c ++ natV d := List.map_append
def spFew (CR : Addr) (T : List (Addr × Str)) : Sp := fun vs H Q _ => ∃ (p a : Addr) (secs : List Sec) (cars : List Car) (m : Int), vs = [.ref p, .ref a, .int m] ∧ RoadAt CR H p secs ∧ CarsAt H a cars ∧ SecsOk secs ∧ CarsOk cars ∧ Tabs T H ∧ 0 ≤ m ∧ m ≤ 1000000 ∧ secs.length ≤ 7 ∧
  ∀ H' l c, ExtN H H' → Tabs T H' → H' l = some (.lst (natV c)) → FewW secs cars m c → Q (.ref l) H'
def nFW : List Str := ["road", "cars", "most", "narrow", "choices", "chosen", "at", "kind", "length", "section"]
theorem scFW : FnScope nFW ["road", "cars", "most"] (defScope sFewestWidened) := ⟨rfl, rfl, rfl, by decide +kernel, rfl, by decide +kernel, by decide +kernel⟩
theorem ok_few {f fL CR pp fP lp kp : Addr} {fd dP dL : FuncData} {T : List (Addr × Str)} (F : Fun K "fewest_widened" "fewest_widened" sFewestWidened f fd) (M : Mg mg) (RR : RoadT K w mg CR lp kp)
    (PO : PropOf K CR "sections" pp fP) (bP : Binds K dP ["self"] []) (GP : FnOk P w K mg base CX0 1 fP dP ["self"] (getSp CR "_sections"))
    (aL : mg "first_loser" = some (.ref fL)) (FL : Fun K "first_loser" "first_loser" sFirstLoser fL dL) (GL : FnR P w K mg base CX0 7 fL (spFL CR T)) :
    FnOk P w K mg base CX0 8 f fd ["road", "cars", "most"] (spFew CR T) := by
  refine F.ok scFW (fun vs H Q E h => ?_) (fun cdv A outer s H vs Q E hr h => ?_)
  · obtain ⟨p, a, secs, cars, m, rfl, _⟩ := h
    rfl
  · obtain ⟨p, a, secs, cars, m, rfl, rd, ct, SO, CO, T0, m0, m1, h7, k⟩ := h
    have nd := scFW.nd
    have hr2 : Room 2 (A.deeper (PyProof.Rows.envOfC "fewest_widened" (defScope sFewestWidened) s.heap.objs.size f cdv)) := hr.mono (by decide)
    have hr7 : Room 7 (A.deeper (PyProof.Rows.envOfC "fewest_widened" (defScope sFewestWidened) s.heap.objs.size f cdv)) := hr.mono (by decide)
    refine ⟨_, (pss_cons (ps_set (i := 3) nd rfl (.inr rfl) (pe_lc (own := [("at", 6), ("kind", 7), ("length", 8)]) (g := gTup K 2 (gCons (gName 6) (gCons (gTup K 2 (gCons (gName 7) (gCons (gName 8) gNil))) gNil))) (tt := tTest (tOp rEq (tVar 7) (tC (.str "narrow")))) (te := tVar 6) (by rfl) nd (pi_enumT (by rfl) M.enumerate (pa_cons (pe_prop (pv 0) RR.cl PO GP hr2 bP .nil pass0 rfl) pa_nil)) (blkOk_by (N := nFW) (sc := defScope sFewestWidened) (by decide +kernel)) (fun _ _ _ _ _ => pg_tup rfl (pgs_cons (pg_name (i := 6) nd rfl (.inl rfl)) (pgs_cons (pg_tup rfl (pgs_cons (pg_name (i := 7) nd rfl (.inl rfl)) (pgs_cons (pg_name (i := 8) nd rfl (.inl rfl)) pgs_nil))) pgs_nil))) (fun _ _ _ _ _ => pts_one (pt_cmpR op_eq (pv 7) pe_str (nomark _))) (fun _ _ _ _ _ => pv 6))) (pss_cons (ps_set (i := 4) nd rfl (.inl rfl) (pe_lst (pa_cons (pe_lst pa_nil) pa_nil))) (pss_one (ps_while PassesOwn.never (pt_val pe_bl) (pss_cons (ps_for PassesOwn.never rfl (pi_list (pv 4)) (pg_name (i := 5) nd rfl (.inl rfl)) (pss_one (ps_if (pt_cmp (pc_isN (StX.pe_callS2 GL hr7 FL.kp (by rfl) aL pass0 (pa_cons (pv 0) (pa_cons (pv 1) (pa_cons (pv 2) (StX.pa_star (pv 5) pa_nil))))))) (pss_one (ps_ret (pv 5))) pss_nil))) (pss_one (ps_setLc2 (i := 4) (own := [("chosen", 5), ("section", 9)]) (vs1 := [9]) (g := gName 5) (tt := tYes) (g1 := gName 9) (tt1 := tOr (tNot (fun σ H Q => tVar 5 σ H fun x H' => ∃ k, TruV K x H' k ∧ Q k H')) (tTest (tOp (rI0 fun i j => .bl (decide (i < j))) (tOp (rIxL K) (tVar 5) (tUn (rU fun i => .int (-i)) (tC (.int 1)))) (tVar 9)))) (te := tOp rCat (tVar 5) (tLst (tCons (tVar 9) tNil))) (wi1 := iList K (tVar 3)) (by rfl) nd rfl rfl (sw_true rfl rfl rfl (by decide +kernel)) (pi_list (pv 4)) (blkOk_by (N := nFW) (sc := defScope sFewestWidened) (by decide +kernel)) (by decide) (fun _ _ _ _ _ => (pg_name (i := 5) nd rfl (.inl rfl))) (fun _ _ _ _ _ => pts_nil) (fun _ _ _ _ _ => (pi_list (pv 3))) (fun _ _ _ _ _ => (pg_name (i := 9) nd rfl (.inl rfl))) (fun _ _ _ _ _ => pts_one (PW.pt (pw_or (pt_not (pt_truth (pv 5) (by intro _; rfl))) (pw_or1 (pt_cmpR op_lt (pe_ix ix_list (pv 5) (pe_un un_neg pe_int) (fun _ _ => rfl)) (pv 9) (nomark _)))))) (fun _ _ _ _ _ => (pe_op op_cat (pv 5) (pe_lst (pa_cons (pv 9) pa_nil))))))))))), ?_⟩
    have h10 := CO.few
    obtain ⟨rdx, rts, ru, r1, r2, r3⟩ := id rd
    obtain ⟨us, r4, r5, r6⟩ := id r2
    have hus : (us.map V.ref).length = secs.length := by rw [List.length_map, r5]
    refine ⟨_, rfl, p, rdx, _, rfl, r1, p, rdx, _, _, rfl, r1, rf_sections _ _, rts, _, rfl, SqT.of r4, fun D hD => ?_⟩
    refine lc_it walk_enumT (fun i H2 => Same H H2 ∧ H2 D = some (.lst (natV (narL secs i))))
      ⟨sameNew hD _, upd_same⟩ (fun i H2 _ ⟨k2, _⟩ => SqT.of (k2 _ _ r4)) ?_ ?_
    · rintro i y H2 H3 hi ⟨k2, u1⟩ ⟨T', x1, x2, rfl, hT, rfl, e1, e2⟩
      cases e1
      rw [hus] at hi
      have e2 : (us.map V.ref)[i]? = some x2 := e2
      obtain ⟨tt, htt, rfl⟩ : ∃ t, us[i]? = some t ∧ x2 = V.ref t := by
        rw [List.getElem?_map] at e2
        obtain ⟨t, z1, z2⟩ := Option.map_eq_some_iff.mp e2
        exact ⟨t, z1, z2.symm⟩
      have hc : secs[i]? = some secs[i] := List.getElem?_eq_getElem hi
      have sT := k2.trans (sameNew hT (.tup [V.int ((i : Nat) : Int), V.ref tt]))
      have u2 := sameNew hT (.tup [V.int ((i : Nat) : Int), V.ref tt]) _ _ u1
      have hct := sT _ _ (r6 i tt _ htt hc)
      have hnl := narL_len secs i
      have hn : isNar secs i = !secs[i].1 := by unfold isNar; rw [hc]; rfl
      refine ⟨T', _, rfl, SqT.of upd_same, rfl, _, _, rfl, _, _, rfl, ⟨tt, _, rfl, SqT.of hct, rfl, _, _, rfl, _, _, rfl, rfl, rfl, rfl, ?_⟩⟩
      generalize upd H2 T' (.tup [V.int ((i : Nat) : Int), V.ref tt]) = H4 at sT u2 ⊢
      refine ⟨_, rfl, rfl, _, rfl, ?_⟩
      rw [show decide (V.str (kindS secs[i].1) = V.str "narrow") = isNar secs i by rw [hn]; cases secs[i].1 <;> rfl, narL_succ]
      cases hq : isNar secs i with
      | true =>
        refine iteT ⟨_, rfl, _, u2, small1000 (by rw [natV_len]; omega), fun b o e => by rw [upd_ne (ne_of_none e hD)]; exact sT _ _ e, ?_⟩
        rw [upd_same, if_pos rfl, natV_app]
        rfl
      | false =>
        refine iteF ⟨sT, ?_⟩
        rw [if_neg (by decide), List.append_nil]
        exact u2
    rintro H1 ⟨s1, hD1⟩
    rw [hus] at hD1
    clear hus r4 r5 r6 r1 r2 r3 hD us
    have hup := narL_up secs secs.length
    have hnl := narL_len secs secs.length
    have hlt : ∀ x ∈ narL secs secs.length, x < secs.length := fun x hx => narL_lt hx
    have hgood := loser_nar (secs := secs) CO.nd m0
    have hin := chs_in (narL secs secs.length)
    have hcl := chs_len (narL secs secs.length) (by omega)
    have hfl := flat_len (narL secs secs.length)
    have hall := chs_all hup
    unfold FewW at k
    generalize narL secs secs.length = nar at *
    refine ⟨Nat.zero_le _, fun q0 hq0 => ⟨by show 1 ≤ sizeLine; decide, fun q1 hq1 => ?_⟩⟩
    have s3 := s1.trans ((sameNew hq0 (.lst [])).trans (sameNew hq1 (.lst [V.ref q0])))
    have hD3 := sameNew hq1 (.lst [V.ref q0]) _ _ (sameNew hq0 (.lst []) _ _ hD1)
    have C3 : CAt (upd (upd H1 q0 (.lst [])) q1 (.lst [V.ref q0])) q1 (chs nar 0) := by
      have n01 : q0 ≠ q1 := fun z => by rw [← z, upd_same] at hq1; cases hq1
      refine ⟨[q0], upd_same, rfl, fun i t d e1 e2 => ?_⟩
      match i, e1, e2 with
      | 0, e1, e2 =>
        cases Option.some.inj e1
        cases Option.some.inj e2
        exact ⟨n01, sameNew hq1 _ _ _ upd_same⟩
    generalize upd (upd H1 q0 (.lst [])) q1 (.lst [V.ref q0]) = H3 at s3 hD3 C3 ⊢
    clear hq0 hq1 hD1 s1
    refine ⟨fun n σ H' => ∃ (kx : Nat) (l : Addr) (v5 : Option V), n = nar.length - kx ∧ kx ≤ nar.length ∧ σ = [some (.ref p), some (.ref a), some (.int m), some (.ref D), some (.ref l), v5, none, none, none, none] ∧ ExtN H H' ∧ Tabs T H' ∧ H' D = some (.lst (natV nar)) ∧ CAt H' l (chs nar kx) ∧ ∀ j, j < kx → ∀ d ∈ chs nar j, loser (widen secs d) cars m ≠ none,
      ⟨_, 0, q1, none, rfl, Nat.zero_le _, rfl, ExtN.same s3, T0.ext s3, hD3, C3, fun j hj => absurd hj (by omega)⟩, ?_⟩
    clear s3 hD3 C3 H3
    rintro n σ H4 ⟨kx, l, v5, rfl, hkx, rfl, e4, T4, hD4, C4, hno⟩
    refine ⟨true, rfl, iteT ⟨fun σ' H' => ∃ n', n' < nar.length - kx ∧ ∃ (kx : Nat) (l : Addr) (v5 : Option V), n' = nar.length - kx ∧ kx ≤ nar.length ∧ σ' = [some (.ref p), some (.ref a), some (.int m), some (.ref D), some (.ref l), v5, none, none, none, none] ∧ ExtN H H' ∧ Tabs T H' ∧ H' D = some (.lst (natV nar)) ∧ CAt H' l (chs nar kx) ∧ ∀ j, j < kx → ∀ d ∈ chs nar j, loser (widen secs d) cars m ≠ none, fun σ' H' h => h, ?_⟩⟩
    obtain ⟨us, u1, u2, u3⟩ := id C4
    have hck := hcl kx
    have hk7 : 7 ^ kx ≤ 823543 := Nat.le_trans (Nat.pow_le_pow_right (by decide) (show kx ≤ 7 by omega)) (by decide)
    have hink := hin kx
    have hfk := hfl
    have hsucc : chs nar (kx + 1) = (chs nar kx).flatMap (extN nar) := rfl
    have hallk : kx = nar.length → nar ∈ chs nar kx := fun e => by rw [e]; exact hall
    have kret := fun H' l' c e t hl pre post (hp : chs nar kx = pre ++ c :: post) h1 h2 => k H' l' c e t hl ⟨kx, pre, post, hp, h1, h2, hno⟩
    have hno' : (∀ d ∈ chs nar kx, loser (widen secs d) cars m ≠ none) → ∀ j, j < kx + 1 → ∀ d ∈ chs nar j, loser (widen secs d) cars m ≠ none := fun h j hj => by
      by_cases e : j = kx
      · rw [e]; exact h
      · exact hno j (by omega)
    generalize chs nar kx = cs at *
    refine ⟨_, rfl, l, rfl, ⟨_, SqL.of u1⟩, for_it walk_list (fun i σ H5 => ∃ v5, σ = [some (.ref p), some (.ref a), some (.int m), some (.ref D), some (.ref l), v5, none, none, none, none] ∧ ExtN H4 H5 ∧ Tabs T H5 ∧ ∀ d ∈ cs.take i, loser (widen secs d) cars m ≠ none)
      ⟨_, rfl, fun _ _ e _ => e, T4, fun d hd => (by simp at hd)⟩ (fun i σ H5 _ ⟨_, _, e5, _⟩ => SqL.of (ExtN.lst e5 u1)) ?_ ?_⟩
    · rintro i y σ Hz H5 hi ⟨v5, rfl, e5, T5, h5⟩ ⟨e, hy⟩
      subst e
      rw [List.length_map, u2] at hi
      obtain ⟨t, ht, rfl⟩ : ∃ t, us[i]? = some t ∧ y = V.ref t := by
        rw [List.getElem?_map] at hy
        obtain ⟨t, z1, z2⟩ := Option.map_eq_some_iff.mp hy
        exact ⟨t, z1, z2.symm⟩
      obtain ⟨c, hc⟩ : ∃ c, cs[i]? = some c := ⟨_, List.getElem?_eq_getElem hi⟩
      have hcm := List.mem_of_getElem? hc
      have htl := ExtN.lst e5 (u3 i t c ht hc).2
      obtain ⟨hc1, hc2⟩ := hink c hcm
      have e45 := e4.trans e5
      refine ⟨_, rfl, _, rfl, _, rfl, _, rfl, t, natV c, rfl, .inr (SqL.of htl), ?_⟩
      refine ⟨[.ref p, .ref a, .int m], natV c ++ [], rfl, rfl, by rw [List.append_nil, natV_len]; exact Nat.le_of_lt (small1000 (by omega)), fun t2 ht2 => ?_⟩
      rw [List.append_nil]
      have s6 := sameNew ht2 (.tup (natV c))
      refine ⟨p, a, t2, secs, cars, m, c, rfl, upd_same, (rd.ext2 e45).ext2 (ExtN.same s6), (ct.ext e45).ext (ExtN.same s6), SO, CO, T5.ext s6, m0, m1, by omega, fun x hx => hlt x (hc1 x hx), fun H7 e7 T7 => ?_⟩
      have e57 := (ExtN.same s6).trans e7
      by_cases h : loser (widen secs c) cars m = none
      · rw [h]
        refine ⟨_, rfl, iteT ⟨_, rfl, ?_⟩⟩
        exact kret H7 t c (e45.trans e57) T7 (ExtN.lst e57 htl) (cs.take i) (cs.drop (i + 1)) (take_mid hc) h h5
      · have : decide (strO (loser (widen secs c) cars m) = V.non) = false := by
          cases q : loser (widen secs c) cars m with
          | none => exact absurd q h
          | some z => rfl
        refine ⟨_, rfl, ?_⟩
        rw [this]
        refine iteF ⟨_, rfl, e5.trans e57, T7, fun d hd => ?_⟩
        rw [tk1 hc] at hd
        rcases List.mem_append.mp hd with hd | hd
        · exact h5 d hd
        · rw [List.mem_singleton.mp hd]
          exact h
    rintro σ H5 ⟨v5', rfl, e5, T5, h5⟩
    rw [List.length_map, u2, List.take_length] at h5
    have hkl : kx < nar.length := by
      rcases Nat.lt_or_ge kx nar.length with z | z
      · exact z
      · exact absurd hgood (h5 nar (hallk (by omega)))
    have e45 := e4.trans e5
    have hD5 := ExtN.lst e5 hD4
    have u15 := ExtN.lst e5 u1
    refine ⟨_, rfl, l, rfl, ⟨_, SqL.of u15⟩, fun D2 hD2 => ?_⟩
    refine walk_w walk_list (fun i H6 => Same H5 H6 ∧ CAt H6 D2 ((cs.take i).flatMap (extN nar))) ⟨sameNew hD2 _, [], upd_same, rfl, fun i t d e1 e2 => by simp at e1⟩ (fun i H6 _ ⟨s6, _⟩ => SqL.of (s6 _ _ u15)) ?_ ?_
    · rintro i y Hz H6 hi ⟨s6, C6⟩ ⟨e, hy⟩
      subst e
      rw [List.length_map, u2] at hi
      obtain ⟨t, ht, rfl⟩ : ∃ t, us[i]? = some t ∧ y = V.ref t := by
        rw [List.getElem?_map] at hy
        obtain ⟨t, z1, z2⟩ := Option.map_eq_some_iff.mp hy
        exact ⟨t, z1, z2.symm⟩
      obtain ⟨c, hc⟩ : ∃ c, cs[i]? = some c := ⟨_, List.getElem?_eq_getElem hi⟩
      have hcm := List.mem_of_getElem? hc
      have htl5 := ExtN.lst e5 (u3 i t c ht hc).2
      obtain ⟨hc1, hc2⟩ := hink c hcm
      have hfi := hfk (cs.take i)
      have hti : (cs.take i).length ≤ 823543 := by rw [List.length_take]; omega
      have hmul : (cs.take i).length * nar.length ≤ 823543 * 7 := Nat.mul_le_mul hti (by omega)
      refine ⟨rfl, yes_of ?_⟩
      refine ⟨_, rfl, D, rfl, ⟨_, SqL.of (s6 _ _ hD5)⟩, ?_⟩
      refine walk_w walk_list (fun j H => Same H5 H ∧ CAt H D2 ((cs.take i).flatMap (extN nar) ++ ((nar.take j).filter fun s => c.isEmpty || decide (c.getLastD 0 < s)).map fun s => c ++ [s]))
        ⟨s6, by rw [show ((nar.take 0).filter fun s => c.isEmpty || decide (c.getLastD 0 < s)).map (fun s => c ++ [s]) = [] from rfl, List.append_nil]; exact C6⟩ (fun i H _ ⟨s, _⟩ => SqL.of (s _ _ hD5)) ?_ ?_
      · clear s6 C6
        rintro j y Hz H7 hj ⟨s7, C7⟩ ⟨e, hy⟩
        subst e
        have hj' : j < nar.length := by rw [natV_len] at hj; exact hj
        obtain ⟨x, hx⟩ : ∃ x, nar[j]? = some x := ⟨_, List.getElem?_eq_getElem hj'⟩
        obtain rfl : y = V.int ((x : Nat) : Int) := by
          unfold natV at hy
          rw [List.getElem?_map, hx] at hy
          exact (Option.some.inj hy).symm
        have htl := s7 _ _ htl5
        have es : ((nar.take (j + 1)).filter fun s => c.isEmpty || decide (c.getLastD 0 < s)).map (fun s => c ++ [s]) = ((nar.take j).filter fun s => c.isEmpty || decide (c.getLastD 0 < s)).map (fun s => c ++ [s]) ++ if (c.isEmpty || decide (c.getLastD 0 < x)) = true then [c ++ [x]] else [] := by
          have key : ∀ pp : Nat → Bool, ((nar.take (j + 1)).filter pp).map (fun s => c ++ [s]) = ((nar.take j).filter pp).map (fun s => c ++ [s]) ++ if pp x = true then [c ++ [x]] else [] := fun pp => by
            rw [tk1 hx, List.filter_append, List.map_append]
            cases hb : pp x <;> simp [hb]
          exact key _
        have hfj : (((nar.take j).filter fun s => c.isEmpty || decide (c.getLastD 0 < s)).map fun s => c ++ [s]).length ≤ 7 := by
          rw [List.length_map]
          refine Nat.le_trans (List.length_filter_le _ _) ?_
          rw [List.length_take]
          omega
        rw [es, ← List.append_assoc]
        obtain ⟨gs, g1, g2, g3⟩ := id C7
        have fin : (c.isEmpty || decide (c.getLastD 0 < x)) = true → ∀ q xx, H7 q = none → upd H7 q (.lst [V.int ((x : Nat) : Int)]) xx = none → ∃ acc, upd (upd H7 q (.lst [V.int ((x : Nat) : Int)])) xx (.lst (natV c ++ [V.int ((x : Nat) : Int)])) D2 = some (.lst acc) ∧ acc.length < sizeLine ∧ (Same H5 (upd (upd (upd H7 q (.lst [V.int ((x : Nat) : Int)])) xx (.lst (natV c ++ [V.int ((x : Nat) : Int)]))) D2 (.lst (acc ++ [V.ref xx]))) ∧
            CAt (upd (upd (upd H7 q (.lst [V.int ((x : Nat) : Int)])) xx (.lst (natV c ++ [V.int ((x : Nat) : Int)]))) D2 (.lst (acc ++ [V.ref xx]))) D2 ((cs.take i).flatMap (extN nar) ++ (((nar.take j).filter fun s => c.isEmpty || decide (c.getLastD 0 < s)).map fun s => c ++ [s]) ++ if (c.isEmpty || decide (c.getLastD 0 < x)) = true then [c ++ [x]] else [])) := fun hb q xx hq hxx => by
          rw [if_pos hb]
          have s13 := sameNew hq (.lst [V.int ((x : Nat) : Int)])
          have s14 := s13.trans (sameNew hxx (.lst (natV c ++ [V.int ((x : Nat) : Int)])))
          have hv : upd (upd H7 q (.lst [V.int ((x : Nat) : Int)])) xx (.lst (natV c ++ [V.int ((x : Nat) : Int)])) xx = some (.lst (natV (c ++ [x]))) := by rw [upd_same, natV_app]; rfl
          have nx : xx ≠ D2 := fun z => by
            have := s13 _ _ g1
            rw [← z, hxx] at this
            cases this
          generalize upd (upd H7 q (.lst [V.int ((x : Nat) : Int)])) xx (.lst (natV c ++ [V.int ((x : Nat) : Int)])) = H9 at s14 hv ⊢
          refine ⟨_, s14 _ _ g1, ?_, fun b ob e => ?_, CAt.push (s14 _ _ g1) g2 (fun i t c e1 e2 => ⟨(g3 i t c e1 e2).1, s14 _ _ (g3 i t c e1 e2).2⟩) nx hv⟩
          · rw [List.length_map, g2, List.length_append]
            exact Nat.lt_of_le_of_lt (show _ ≤ 823543 * 7 + 7 by omega) (by decide)
          · rw [upd_ne (ne_of_none e hD2)]
            exact s14 _ _ (s7 _ _ e)
        refine ⟨rfl, ?_⟩
        refine ⟨_, rfl, _, .inl ⟨_, SqL.of htl, rfl⟩, ?_⟩
        rcases List.eq_nil_or_concat c with ce | ⟨ini, la, ce⟩
        · have e1 : (natV c).isEmpty = true := by rw [ce]; rfl
          have e2 : c.isEmpty = true := by rw [ce]; rfl
          rw [e1]
          refine iteT (iteT ⟨_, rfl, _, rfl, by show 1 ≤ sizeLine; decide, fun q hq => ⟨t, q, _, _, rfl, rfl, sameNew hq _ _ _ htl, upd_same, by rw [natV_len, hc2]; exact Nat.le_of_lt (small1000 (by show kx + 1 ≤ 1000; omega)), fun xx hxx => fin (by rw [e2]; rfl) q xx hq hxx⟩⟩)
        · rw [List.concat_eq_append] at ce
          have e1 : (natV c).isEmpty = false := by rw [ce, natV_app]; cases natV ini <;> rfl
          have e2 : c.isEmpty = false := by rw [ce]; cases ini <;> rfl
          have e3 : c.getLastD 0 = la := by rw [ce, lastD_snoc]
          have htl2 : H7 t = some (.lst (natV ini ++ [V.int ((la : Nat) : Int)])) := by rw [htl, ce, natV_app]; rfl
          rw [e1]
          refine iteF ?_
          refine ⟨_, rfl, _, rfl, t, _, _, .int ((la : Nat) : Int), rfl, rfl, SqL.of htl2, atI_last _ _, _, rfl, _, _, rfl, rfl, _, rfl, ?_⟩
          by_cases h : la < x
          · rw [decide_eq_true (show ((la : Nat) : Int) < ((x : Nat) : Int) by omega)]
            exact iteT ⟨_, rfl, _, rfl, by show 1 ≤ sizeLine; decide, fun q hq => ⟨t, q, _, _, rfl, rfl, sameNew hq _ _ _ htl, upd_same, by rw [natV_len, hc2]; exact Nat.le_of_lt (small1000 (by show kx + 1 ≤ 1000; omega)), fun xx hxx => fin (by rw [e2, e3, decide_eq_true h]; rfl) q xx hq hxx⟩⟩
          · rw [decide_eq_false (show ¬ ((la : Nat) : Int) < ((x : Nat) : Int) by omega)]
            refine iteF ⟨s7, ?_⟩
            rw [if_neg (by rw [e2, e3, decide_eq_false h]; decide), List.append_nil]
            exact C7
      · rintro H7 ⟨s7, C7⟩
        rw [natV_len, List.take_length] at C7
        refine ⟨s7, ?_⟩
        rw [tk1 hc, List.flatMap_append]
        have : [c].flatMap (extN nar) = (nar.filter fun s => c.isEmpty || decide (c.getLastD 0 < s)).map fun s => c ++ [s] := by simp [extN]
        rw [this]
        exact C7
    rintro H6 ⟨s6, C6⟩
    rw [List.length_map, u2, List.take_length, ← hsucc] at C6
    exact ⟨_, by omega, kx + 1, D2, _, rfl, hkl, rfl, e45.trans (ExtN.same s6), T5.ext s6, s6 _ _ hD5, C6, hno' h5⟩
end
end Sl

set_option Elab.async false
set_option linter.all false
set_option maxRecDepth 100000
set_option maxHeartbeats 1000000
/-! min over values whose order asks the heap: what the walk keeps is known at each comparison. -/
namespace OwnR
open PySem PySem.Spec PyProof.Rows PySem.Calls
section
variable {prog : Program} {w : World} {A : Around} {R : Result → Shared → Prop} {I S : Addr} {fp wr : List Addr} {n : Nat} {P : Nat → Value → Prop} {St : Nat → Heap → Prop}
/-- all but the walk's own objects stand as at h -/
def KeptBut (wr : List Addr) (S : Addr) (h h' : Heap) : Prop := ∀ b o, b ∉ wr → b ≠ S → h.get? b = some o → h'.get? b = some o
theorem KeptBut.trans {h1 h2 h3 : Heap} (a : KeptBut wr S h1 h2) (b : KeptBut wr S h2 h3) : KeptBut wr S h1 h3 := fun x o n1 n2 e => b x o n1 n2 (a x o n1 n2 e)
def CmpK (prog : Program) (w : World) (A : Around) (wr : List Addr) (S : Addr) (h0 : Heap) (P : Nat → Value → Prop) (bt : Nat → Nat → Bool) : Prop :=
  ∀ (i j : Nat) (x y : Value) (s : Shared) (Q E : Value → Shared → Prop), KeptBut wr S h0 s.heap → P i x → P j y → Q (.bool (bt i j)) s → wpAny (model prog w) A (richCompare .Lt x y) Q E s
theorem min_turns {h0 : Heap} (W : Walks prog w A.in1 I fp wr n P St) (bt : Nat → Nat → Bool) (cmp : CmpK prog w A.in1 wr S h0 P bt) (nS : S ∉ fp) :
    ∀ (left j : Nat) (s : Shared) (best : Value) (c : Nat), n - (j + 1) = left → j + 1 ≤ n → KeptBut wr S h0 s.heap → St (j + 1) s.heap → P (argBest bt j) best → s.heap.get? S = some { cls := .type "list", dict := none, data := .seq #[best, best] c, slots := #[] } →
    (∀ v h' tk, P (argBest bt (n - 1)) v → KeptBut wr S s.heap h' → R (.ok (.ret v)) { s with heap := h', toks := tk }) → codeAny (model prog w) A (.builtin "min.loop" ⟨[.ref I, .none, .ref S], []⟩) R s := by
  have nw : S ∉ wr := fun h => nS (W.sub _ h)
  have nm : (toString "min" ++ toString ".loop" : String) = "min.loop" := by decide
  intro left
  induction left with
  | zero =>
    intro j s best c hl hj hk hst hb hS hR
    have hn : j + 1 = n := by omega
    refine codeAny_builtin PySem.F.entry_min_loop ?_
    rw [Around.under_plainId PySem.F.plain_min_loop _]
    show wpAny _ A.in1 (seqItems? (.ref S) >>= _) _ _ s
    refine wpAny_bind (wpAny_seqItems hS rfl ?_)
    show wpAny _ A.in1 (tryCatch (pyNext (.ref I)) _ >>= _) _ _ s
    refine wpAny_bind (wpAny_tryCatch (W.done s _ _ (hn ▸ hst) fun h' tk kp => ?_))
    show wpAny _ A.in1 (updateSeq S (fun _ => #[]) >>= _) _ _ _
    refine wpAny_bind (wpAny_updateSeq (kp S _ nw hS) rfl (wpAny_bind (wpAny_letGo (wpAny_pure ?_))))
    exact hR best _ tk (by rw [← hn]; exact hb) fun b o n1 n2 e => (Heap.get?_update_other _ _ (Ne.symm n2)).trans (kp b o n1 e)
  | succ left ih =>
    intro j s best c hl hj hk hst hb hS hR
    have lt : j + 1 < n := by omega
    refine codeAny_builtin PySem.F.entry_min_loop ?_
    rw [Around.under_plainId PySem.F.plain_min_loop _]
    show wpAny _ A.in1 (seqItems? (.ref S) >>= _) _ _ s
    refine wpAny_bind (wpAny_seqItems hS rfl ?_)
    show wpAny _ A.in1 (tryCatch (pyNext (.ref I)) _ >>= _) _ _ s
    refine wpAny_bind (wpAny_tryCatch (W.item (j + 1) s _ _ lt hst fun v h' tk hv hst' kp => ?_))
    have hS' := kp S _ nw hS
    have step : KeptBut wr S s.heap h' := fun b o n1 _ e => kp b o n1 e
    show wpAny _ A.in1 (tryCatch (holding [v, v] (richCompare .Lt v best >>= _)) _ >>= _) _ _ _
    refine wpAny_bind (wpAny_tryCatch (wpAny_holding (wpAny_bind (cmp (j + 1) (argBest bt j) v best _ _ _ (hk.trans step) hv hb ?_))))
    refine wpAny_bind (wpAny_holding (wpAny_truthy_bool ?_))
    refine wpAny_bind (wpAny_letGo (wpAny_pure ?_))
    by_cases hb2 : bt (j + 1) (argBest bt j) = true
    · have ab : argBest bt (j + 1) = j + 1 := by simp only [argBest, hb2, if_true]
      rw [hb2]
      simp only [if_true]
      refine wpAny_bind (wpAny_updateSeq hS' rfl (wpAny_bind (wpAny_letGo ?_)))
      rw [nm]
      have other : ∀ {b : Addr} {o : Obj} {f}, b ≠ S → h'.get? b = some o → (h'.update S f).get? b = some o := fun nb e => (Heap.get?_update_other _ _ (Ne.symm nb)).trans e
      refine wpAny_pure ⟨plainId_quiet PySem.F.plain_min_loop _, ih (j + 1) _ v _ (by omega) lt (hk.trans (step.trans fun b o _ n2 e => other n2 e)) (W.frame _ _ _ hst' fun b hb o e => other (fun z => nS (z ▸ hb)) e) (by rw [ab]; exact hv) (Heap.get?_update_self _ hS' rfl) fun v' h2 tk2 hv' k2 => ?_⟩
      exact hR v' h2 tk2 hv' (step.trans fun b o n1 n2 e => k2 b o n1 n2 (other n2 e))
    · have hb3 : bt (j + 1) (argBest bt j) = false := by simpa using hb2
      have ab : argBest bt (j + 1) = argBest bt j := by simp only [argBest, hb3, Bool.false_eq_true, if_false]
      rw [hb3]
      simp only [Bool.false_eq_true, if_false]
      refine wpAny_bind (wpAny_letGo ?_)
      rw [nm]
      exact wpAny_pure ⟨plainId_quiet PySem.F.plain_min_loop _, ih (j + 1) _ best c (by omega) lt (hk.trans step) hst' (by rw [ab]; exact hb) hS' fun v' h2 tk2 hv' k2 => hR v' h2 tk2 hv' (step.trans k2)⟩
/-- min(xs) -/
theorem call_minK {A : Around} {E : Value → Shared → Prop} {s : Shared} {x : Value} {Q : Value → Shared → Prop}
    (h : wpAny (model prog w) A.in1 (pyIter x) (fun it s₂ => ∃ I fp wr n P St bt, it = .ref I ∧ Walks prog w A.in1 I fp wr n P St ∧ St 0 s₂.heap ∧ (∀ b ∈ fp, b < s₂.heap.objs.size) ∧ 0 < n ∧ CmpK prog w A.in1 wr s₂.heap.objs.size s₂.heap P bt ∧
      ∀ v h' tk, P (argBest bt (n - 1)) v → (∀ b o, b ∉ wr → s₂.heap.get? b = some o → h'.get? b = some o) → Q v { s₂ with heap := h', toks := tk }) E s) :
    wpAny (model prog w) A (call (.builtin "min") [x]) Q E s := by
  have nm : (toString "min" ++ toString ".loop" : String) = "min.loop" := by decide
  refine call_function_tree PySem.F.kind_min PySem.F.plain_min PySem.F.entry_min (PySem.F.args_min1 _) ?_
  show wpAny _ A.in1 (Builtin.Builtins.bindParams "min" ["key", "default"] 0 ⟨[], []⟩ >>= _) _ _ s
  refine wpAny_bind (wpAny_of_eq (show Builtin.Builtins.bindParams "min" ["key", "default"] 0 ⟨[], []⟩ = pure [none, none] from rfl) ?_)
  refine wpAny_bind (wpAny_pure (wpAny_bind (wpAny_mono h (fun it s₂ h₂ => ?_) fun _ _ e => e)))
  obtain ⟨I, fp, wr, n, P, St, bt, rfl, W, hst, hfp, hn, cmp, hQ⟩ := h₂
  refine wpAny_bind (wpAny_newObj_type ?_)
  have nS : s₂.heap.objs.size ∉ fp := fun hm => Nat.lt_irrefl _ (hfp _ hm)
  have nw : s₂.heap.objs.size ∉ wr := fun h => nS (W.sub _ h)
  rw [nm]
  refine wpAny_pure ⟨plainId_quiet PySem.F.plain_min_loop _, ?_⟩
  refine codeAny_builtin PySem.F.entry_min_loop ?_
  rw [Around.under_plainId PySem.F.plain_min_loop _]
  have kp0 : ∀ {ob : Obj} (b : Addr) (o : Obj), s₂.heap.get? b = some o → (s₂.heap.push ob).get? b = some o := fun b o e => Heap.get?_push_of_some _ e
  show wpAny _ A.in1 (seqItems? (.ref s₂.heap.objs.size) >>= _) _ _ _
  refine wpAny_bind (wpAny_seqItems (Heap.get?_push_size _ rfl) rfl ?_)
  show wpAny _ A.in1 (tryCatch (pyNext (.ref I)) _ >>= _) _ _ _
  refine wpAny_bind (wpAny_tryCatch (W.item 0 _ _ _ hn (W.frame _ _ _ hst fun b _ o e => kp0 b o e) fun v h' tk hv hst' kp => ?_))
  have hS' := kp _ _ nw (Heap.get?_push_size _ rfl)
  show wpAny _ A.in1 (updateSeq s₂.heap.objs.size (fun _ => #[v, v]) >>= _) _ _ _
  refine wpAny_bind (wpAny_updateSeq hS' rfl ?_)
  rw [nm]
  have other : ∀ {b : Addr} {o : Obj} {f}, b ≠ s₂.heap.objs.size → h'.get? b = some o → (h'.update s₂.heap.objs.size f).get? b = some o := fun nb e => (Heap.get?_update_other _ _ (Ne.symm nb)).trans e
  refine wpAny_pure ⟨plainId_quiet PySem.F.plain_min_loop _, min_turns (h0 := s₂.heap) W bt cmp nS _ 0 _ v _ rfl hn (fun b o n1 n2 e => other n2 (kp b o n1 (kp0 b o e))) (W.frame _ _ _ hst' fun b hb o e => other (fun z => nS (z ▸ hb)) e) hv (Heap.get?_update_self _ hS' rfl) fun v' h2 tk2 hv' k2 => ?_⟩
  exact hQ v' h2 tk2 hv' fun b o n1 e => k2 b o n1 (Nat.ne_of_lt (Heap.lt_size e)) (other (Nat.ne_of_lt (Heap.lt_size e)) (kp b o n1 (kp0 b o e)))
end
end OwnR

set_option Elab.async false
set_option linter.all false
set_option maxRecDepth 100000
set_option maxHeartbeats 1000000
/-! the order of lists of numbers, and of (length, list) -/
namespace Sl
open PySem PySem.Spec L2 OwnR LamX PySem.SeqAt
/-- a list of numbers ahead of another -/
def ltN (c d : List Nat) : Bool := firstLt (fun j => decide (c.getD j 0 = d.getD j 0)) (fun j => decide (c.getD j 0 < d.getD j 0)) (decide (c.length < d.length)) (List.range (min c.length d.length))
theorem nat_at {c : List Nat} {vs : List Value} (r : Vals (natV c) vs) {j : Nat} (h : j < vs.length) : ∃ t, vs[j] = .int ((c.getD j 0 : Nat) : Int) t := by
  have hl : (natV c).length = vs.length := r.length
  rw [natV_len] at hl
  have hc : j < c.length := by omega
  obtain ⟨u, hu, rel⟩ := Vals.get (i := j) (x := V.int ((c.getD j 0 : Nat) : Int)) r (by
    unfold natV
    rw [List.getElem?_map, List.getElem?_eq_getElem hc]
    simp [List.getD, List.getElem?_eq_getElem hc])
  have e : vs[j]? = some vs[j] := List.getElem?_eq_getElem h
  rw [e] at hu
  obtain ⟨t, ht⟩ : ∃ t, u = .int ((c.getD j 0 : Nat) : Int) t := rel
  exact ⟨t, (Option.some.inj hu).trans ht⟩
theorem lt_nats {A : Around} {s : Shared} {l b : Addr} {c d : List Nat} {vs us : List Value} (hl : s.heap.IsList l vs.toArray) (hb : s.heap.IsList b us.toArray) (rv : Vals (natV c) vs) (ru : Vals (natV d) us) (hu : A.units + 8 < cLine) : RcLt A s (.ref l) (.ref b) (ltN c d) := by
  have e1 : vs.length = c.length := by have := rv.length; rw [natV_len] at this; omega
  have e2 : us.length = d.length := by have := ru.length; rw [natV_len] at this; omega
  have key := RcLt.lists (A := A) (e := fun j => decide (c.getD j 0 = d.getD j 0)) (r := fun j => decide (c.getD j 0 < d.getD j 0)) hl hb (by omega) (fun j h1 h2 => ?_) (fun j h1 h2 _ => ?_)
  · rw [List.size_toArray, List.size_toArray, e1, e2] at key
    exact key
  · rw [List.size_toArray] at h1 h2
    obtain ⟨t, ht⟩ := nat_at rv h1
    obtain ⟨u, hu2⟩ := nat_at ru h2
    rw [List.getElem_toArray, List.getElem_toArray, ht, hu2]
    have q := eqAt_reads (.int ((c.getD j 0 : Nat) : Int)) (.int ((d.getD j 0 : Nat) : Int)) A.in1 s (.int ((c.getD j 0 : Nat) : Int) t) (.int ((d.getD j 0 : Nat) : Int) u) _ _ (.int _ _) (.int _ _) rfl rfl (by show A.units + 1 + 0 < cLine; omega)
    have e : PyData.eqv (.int ((c.getD j 0 : Nat) : Int)) (.int ((d.getD j 0 : Nat) : Int)) = decide (c.getD j 0 = d.getD j 0) := by
      show decide (((c.getD j 0 : Nat) : Int) = ((d.getD j 0 : Nat) : Int)) = _
      rw [decide_eq_decide]
      omega
    rw [e] at q
    exact q
  · rw [List.size_toArray] at h1 h2
    obtain ⟨t, ht⟩ := nat_at rv h1
    obtain ⟨u, hu2⟩ := nat_at ru h2
    rw [List.getElem_toArray, List.getElem_toArray, ht, hu2]
    intro prog w E Q h
    refine PyProof.Rows.lt_int ?_
    have e : decide (((c.getD j 0 : Nat) : Int) < ((d.getD j 0 : Nat) : Int)) = decide (c.getD j 0 < d.getD j 0) := by
      rw [decide_eq_decide]
      omega
    rw [e]
    exact h
theorem reads_nats {h : Heap} : ∀ {c : List Nat} {vs : List Value}, Vals (natV c) vs → ∃ as, ReadsAll h vs (c.map fun n => .int ((n : Nat) : Int)) as
  | [], vs, r => by
    obtain rfl := Vals.zero r
    exact ⟨_, .nil⟩
  | n :: c, vs, r => by
    cases r with
    | cons r1 r2 =>
      obtain ⟨as, h2⟩ := reads_nats r2
      obtain ⟨t, rfl⟩ : ∃ t, _ = Value.int ((n : Nat) : Int) t := r1
      exact ⟨_, .cons (.int _ _) h2⟩
def natsD (c : List Nat) : PyData := .list (c.map fun n => .int ((n : Nat) : Int))
theorem eqv_nats : ∀ c d : List Nat, PyData.eqvAll (c.map fun n => .int ((n : Nat) : Int)) (d.map fun n => .int ((n : Nat) : Int)) = decide (c = d)
  | [], [] => rfl
  | [], _ :: _ => rfl
  | _ :: _, [] => rfl
  | x :: a, y :: b => by
    show (PyData.eqv (.int ((x : Nat) : Int)) (.int ((y : Nat) : Int)) && PyData.eqvAll (a.map fun n => .int ((n : Nat) : Int)) (b.map fun n => .int ((n : Nat) : Int))) = _
    rw [eqv_nats a b, show PyData.eqv (.int ((x : Nat) : Int)) (.int ((y : Nat) : Int)) = decide (x = y) by show decide (((x : Nat) : Int) = ((y : Nat) : Int)) = _; rw [decide_eq_decide]; omega]
    by_cases h : x = y <;> by_cases g : a = b <;> simp [h, g]
/-- (length, list) ahead of another -/
def ltK (c d : List Nat) : Bool := if c.length = d.length then (if c = d then false else ltN c d) else decide (c.length < d.length)
theorem lt_keys {A : Around} {s : Shared} {t b l m : Addr} {c d : List Nat} {vs us : List Value} {t1 t2 : Tok} (ht : s.heap.IsTuple t #[.int ((c.length : Nat) : Int) t1, .ref l]) (hb : s.heap.IsTuple b #[.int ((d.length : Nat) : Int) t2, .ref m]) (hl : s.heap.IsList l vs.toArray) (hm : s.heap.IsList m us.toArray)
    (rv : Vals (natV c) vs) (ru : Vals (natV d) us) (hu : A.units + 16 < cLine) : RcLt A s (.ref t) (.ref b) (ltK c d) := by
  have u1 : A.in1.units = A.units + 1 := rfl
  have key := RcLt.tuples (A := A) (e := fun j => if j = 0 then decide (c.length = d.length) else decide (c = d)) (r := fun j => if j = 0 then decide (c.length < d.length) else ltN c d) ht hb (by omega) (fun j h1 h2 => ?_) (fun j h1 h2 _ => ?_)
  · have e : firstLt (fun j => if j = 0 then decide (c.length = d.length) else decide (c = d)) (fun j => if j = 0 then decide (c.length < d.length) else ltN c d) false [0, 1] = ltK c d := by
      unfold ltK firstLt firstLt firstLt
      by_cases h : c.length = d.length <;> by_cases g : c = d <;> simp [h, g]
    rw [← e]
    exact key
  · match j, h1, h2 with
    | 0, h1, h2 =>
      have q := eqAt_reads (.int ((c.length : Nat) : Int)) (.int ((d.length : Nat) : Int)) A.in1 s (.int ((c.length : Nat) : Int) t1) (.int ((d.length : Nat) : Int) t2) _ _ (.int _ _) (.int _ _) rfl rfl (by show A.units + 1 + 0 < cLine; omega)
      rw [show PyData.eqv (.int ((c.length : Nat) : Int)) (.int ((d.length : Nat) : Int)) = decide (c.length = d.length) by show decide (((c.length : Nat) : Int) = ((d.length : Nat) : Int)) = _; rw [decide_eq_decide]; omega] at q
      exact q
    | 1, h1, h2 =>
      obtain ⟨o1, g1, k1, n1, x1⟩ := id hl
      obtain ⟨o2, g2, k2, n2, x2⟩ := id hm
      obtain ⟨as, ra⟩ := reads_nats (h := s.heap) rv
      obtain ⟨bs, rb⟩ := reads_nats (h := s.heap) ru
      have can : ∀ c : List Nat, (natsD c).canLay0 = true ∧ (natsD c).depth ≤ 1 := fun c => (shp_list (n := 0) fun e he => by
        obtain ⟨x, _, rfl⟩ := List.mem_map.mp he
        exact shp_int _)
      have q := eqAt_reads (natsD c) (natsD d) A.in1 s (.ref l) (.ref m) _ _ (.list g1 k1 x1 (by simpa using ra)) (.list g2 k2 x2 (by simpa using rb)) (can c).1 (can d).1 (by have h1 := (can c).2; show A.units + 1 + min (natsD c).depth (natsD d).depth < cLine; omega)
      rw [show PyData.eqv (natsD c) (natsD d) = decide (c = d) from eqv_nats c d] at q
      exact q
  · match j, h1, h2 with
    | 0, h1, h2 =>
      intro prog w E Q h
      refine PyProof.Rows.lt_int ?_
      rw [show decide (((c.length : Nat) : Int) < ((d.length : Nat) : Int)) = decide (c.length < d.length) by rw [decide_eq_decide]; omega]
      exact h
    | 1, h1, h2 => exact lt_nats hl hm rv ru (by omega)
end Sl

set_option Elab.async false
set_option linter.all false
set_option maxRecDepth 100000
set_option maxHeartbeats 1000000
namespace Sl
open PySem PySem.Spec PyProof.Rows L2 OwnR LamX PySem.SeqAt
/-- min of tuples (length, list) -/
def rMinT (K : PySem.W.Frag) : List V → Hp → VK → Prop := fun xs H Q => ∃ (p : Addr) (ts : List Addr) (cs : List (List Nat)), xs = [.ref p] ∧ SqL K H p (ts.map V.ref) ∧ ts.length = cs.length ∧ 0 < cs.length ∧ (∀ (i : Nat) (t : Addr) (c : List Nat), ts[i]? = some t → cs[i]? = some c → ∃ l, H t = some (.tup [.int ((c.length : Nat) : Int), .ref l]) ∧ H l = some (.lst (natV c))) ∧
  ∀ t, ts[argBest (fun i j => ltK (cs.getD i []) (cs.getD j [])) (cs.length - 1)]? = some t → Q (.ref t) H
theorem call_minT {X : Cx} (hc : X.calm = true) (hu : X.A.units + 64 < cLine) : CallR X (.builtin "min") (rMinT X.K) := by
  intro pins s σ H xs us Q I r h
  obtain ⟨p, ts, cs, rfl, hs, hl, h0, he, hQ⟩ := h
  obtain ⟨its, rv, hp, _⟩ := I.list hs
  rw [Vals.ref1 r]
  have hh := I.ok.hd hc
  have hIs := hp.isList
  have nits : its.length = cs.length := by
    have := rv.length
    rw [List.length_map] at this
    omega
  have lt : p < s.heap.objs.size := by
    obtain ⟨o, ho, _⟩ := id hIs
    exact Heap.lt_size ho
  have kpush : ∀ {ob : Obj} (b : Addr) (o : Obj), s.heap.get? b = some o → (s.heap.push ob).get? b = some o := fun b o e => Heap.get?_push_of_some _ e
  have far : ∀ {b : Addr} {o : Obj}, s.heap.get? b = some o → b ∉ [s.heap.objs.size] := fun {b o} e z => Nat.ne_of_lt (Heap.lt_size e) (List.mem_singleton.mp z)
  refine call_minK (wpAny_pyIter_list hIs ?_)
  refine ⟨s.heap.objs.size, _, _, _, _, _, fun i j => ltK (cs.getD i []) (cs.getD j []), rfl, Walks.list (A := X.A.in1) hh _ p (Nat.ne_of_lt lt) its.toArray, ⟨⟨_, Heap.get?_push_size _ rfl, rfl, rfl⟩, hIs.at fun o e => kpush _ _ e⟩, fun b hb => ?_, by rw [List.size_toArray, nits]; exact h0, ?_, fun v h' tk hP hk => ?_⟩
  · have lt1 : b < s.heap.objs.size + 1 := by
      rcases List.mem_cons.mp hb with rfl | hb
      · exact Nat.lt_succ_self _
      · rw [List.mem_singleton.mp hb]
        exact Nat.lt_succ_of_lt lt
    show b < (s.heap.push _).objs.size
    rw [Heap.size_push]
    exact lt1
  · intro i j x y s' Q' E' hk' hx hy hq
    -- what stands at a place of the list
    have at_ : ∀ {i : Nat} {x : Value}, its.toArray[i]? = some x → ∃ (t : Addr) (c : List Nat) (l : Addr) (t1 : Tok) (vs : List Value), x = .ref t ∧ cs.getD i [] = c ∧ s'.heap.IsTuple t #[.int ((c.length : Nat) : Int) t1, .ref l] ∧ s'.heap.IsList l vs.toArray ∧ Vals (natV c) vs := fun {i x} hx => by
      have hx : its[i]? = some x := by simpa using hx
      have hi : i < its.length := (List.getElem?_eq_some_iff.mp hx).1
      obtain ⟨t, ht⟩ : ∃ t, ts[i]? = some t := ⟨_, List.getElem?_eq_getElem (by omega)⟩
      obtain ⟨c, hcc⟩ : ∃ c, cs[i]? = some c := ⟨_, List.getElem?_eq_getElem (by omega)⟩
      obtain ⟨u, hu1, ru⟩ := Vals.get (i := i) (x := V.ref t) rv (by rw [List.getElem?_map, ht]; rfl)
      rw [hx] at hu1
      obtain rfl : x = u := Option.some.inj hu1
      obtain rfl : x = Value.ref t := ru
      obtain ⟨l, h1, h2⟩ := he i t c ht hcc
      obtain ⟨_, tv, rt, oT, hoT, hcl, n, hdT⟩ := (show ObjOk X.prog X.w H s.heap t (.tup [.int ((c.length : Nat) : Int), .ref l]) from I.hok t _ h1)
      obtain ⟨_, lv, nl, rl, hoL⟩ := (show ObjOk X.prog X.w H s.heap l (.lst (natV c)) from I.hok l _ h2)
      have old : ∀ {b : Addr} {o : Obj}, s.heap.get? b = some o → s'.heap.get? b = some o := fun {b o} e => hk' b o (far e) (Nat.ne_of_lt (by show b < (s.heap.push _).objs.size; rw [Heap.size_push]; exact Nat.lt_succ_of_lt (Heap.lt_size e))) (kpush b o e)
      obtain ⟨u1, u2, rfl, r1, r2⟩ := Vals.two rt
      obtain ⟨t1, rfl⟩ : ∃ t1, u1 = Value.int ((c.length : Nat) : Int) t1 := r1
      obtain rfl : u2 = Value.ref l := r2
      exact ⟨t, c, l, t1, lv, rfl, by simp [List.getD, hcc], ⟨oT, old hoT, hcl, n, hdT⟩, ⟨_, old hoL, rfl, nl, rfl⟩, rl⟩
    obtain ⟨t, c, l, t1, vs, rfl, e1, a1, a2, a3⟩ := at_ hx
    obtain ⟨b, d, m, t2, us, rfl, e2, b1, b2, b3⟩ := at_ hy
    have hq : Q' (.bool (ltK (cs.getD i []) (cs.getD j []))) s' := hq
    rw [e1, e2] at hq
    exact lt_keys a1 b1 a2 b2 a3 b3 (by show X.A.units + 1 + 16 < cLine; omega) X.prog X.w E' Q' hq
  · have hP : its.toArray[argBest (fun i j => ltK (cs.getD i []) (cs.getD j [])) (its.toArray.size - 1)]? = some v := hP
    rw [List.size_toArray, nits] at hP
    have hP : its[argBest (fun i j => ltK (cs.getD i []) (cs.getD j [])) (cs.length - 1)]? = some v := by simpa using hP
    generalize argBest (fun i j => ltK (cs.getD i []) (cs.getD j [])) (cs.length - 1) = q at hP hQ
    obtain ⟨t, ht⟩ : ∃ t, ts[q]? = some t := ⟨_, List.getElem?_eq_getElem (by have := (List.getElem?_eq_some_iff.mp hP).1; omega)⟩
    obtain ⟨u, hu1, ru⟩ := Vals.get (i := q) (x := V.ref t) rv (by rw [List.getElem?_map, ht]; rfl)
    rw [hP] at hu1
    obtain rfl : v = u := Option.some.inj hu1
    exact ⟨.ref t, H, I.kept (t' := tk) fun b o e => hk b o (far e) (kpush b o e), ru, hQ t ht⟩
end Sl

set_option Elab.async false
set_option linter.all false
set_option maxRecDepth 100000
namespace Sl
open PySem PySem.Spec L2 OwnR LamX
/-! ### all choices: by levels, and by doubling -/
theorem chs_up {nar : List Nat} : ∀ k, ∀ c ∈ chs nar k, c.Pairwise (· < ·)
  | 0 => fun c hc => by
    rw [List.mem_singleton.mp hc]
    exact .nil
  | k + 1 => fun c hc => by
    obtain ⟨d, hd, h⟩ := List.mem_flatMap.mp hc
    obtain ⟨s, hs, rfl⟩ := List.mem_map.mp h
    have up := chs_up k d hd
    have hp := (List.mem_filter.mp hs).2
    rw [List.pairwise_append]
    refine ⟨up, List.pairwise_singleton _ _, fun x hx y hy => ?_⟩
    rw [List.mem_singleton.mp hy]
    rcases List.eq_nil_or_concat d with rfl | ⟨ini, la, rfl⟩
    · cases hx
    · rw [List.concat_eq_append] at hp hx up
      have hp : la < s := by
        rcases Bool.or_eq_true_iff.mp hp with h | h
        · simp at h
        · have := of_decide_eq_true h
          rwa [lastD_snoc] at this
      rcases List.mem_append.mp hx with hx | hx
      · have := (List.pairwise_append.mp up).2.2 x hx la (List.mem_singleton.mpr rfl)
        omega
      · rw [List.mem_singleton.mp hx]
        exact hp
theorem chs_mem {nar : List Nat} : ∀ (k : Nat) (c : List Nat), c.length = k → c.Pairwise (· < ·) → (∀ x ∈ c, x ∈ nar) → c ∈ chs nar k
  | 0, c, h, _, _ => by
    rw [List.length_eq_zero_iff.mp h]
    exact List.mem_singleton.mpr rfl
  | k + 1, c, h, up, hin => by
    rcases List.eq_nil_or_concat c with rfl | ⟨ini, la, rfl⟩
    · simp at h
    · rw [List.concat_eq_append] at h up hin ⊢
      rw [List.length_append, List.length_singleton] at h
      have u := List.pairwise_append.mp up
      have hi := chs_mem k ini (by omega) u.1 fun x hx => hin x (List.mem_append_left _ hx)
      refine List.mem_flatMap.mpr ⟨ini, hi, List.mem_map.mpr ⟨la, List.mem_filter.mpr ⟨hin la (List.mem_append_right _ (List.mem_singleton.mpr rfl)), ?_⟩, rfl⟩⟩
      rcases List.eq_nil_or_concat ini with rfl | ⟨i2, l2, rfl⟩
      · rfl
      · rw [List.concat_eq_append] at u ⊢
        have : l2 < la := u.2.2 l2 (List.mem_append_right _ (List.mem_singleton.mpr rfl)) la (List.mem_singleton.mpr rfl)
        rw [lastD_snoc, decide_eq_true this, Bool.or_true]
/-- all sublists, by doubling -/
def subsD (nar : List Nat) : List (List Nat) := nar.foldl (fun S x => S ++ S.map fun c => c ++ [x]) [[]]
theorem subsD_snoc (nar : List Nat) (x : Nat) : subsD (nar ++ [x]) = subsD nar ++ (subsD nar).map fun c => c ++ [x] := by
  unfold subsD
  rw [List.foldl_append]
  rfl
theorem subsD_len : ∀ (nar : List Nat), (subsD nar).length = 2 ^ nar.length := by
  have key : ∀ (l : List Nat) (S : List (List Nat)), (l.foldl (fun S x => S ++ S.map fun c => c ++ [x]) S).length = S.length * 2 ^ l.length := by
    intro l
    induction l with
    | nil => intro S; simp
    | cons x r ih =>
      intro S
      rw [List.foldl_cons, ih, List.length_append, List.length_map, List.length_cons, Nat.pow_succ, Nat.mul_comm (2 ^ r.length) 2, ← Nat.mul_assoc, Nat.mul_two]
  intro nar
  unfold subsD
  rw [key]
  simp
theorem subsD_in : ∀ (m : Nat) (nar : List Nat), nar.length = m → nar.Pairwise (· < ·) → ∀ c, c ∈ subsD nar ↔ c.Pairwise (· < ·) ∧ ∀ x ∈ c, x ∈ nar
  | 0, nar, h, _, c => by
    rw [List.length_eq_zero_iff.mp h]
    constructor
    · intro hc
      rw [List.mem_singleton.mp hc]
      exact ⟨.nil, fun x hx => nomatch hx⟩
    · rintro ⟨_, hc⟩
      cases c with
      | nil => exact List.mem_singleton.mpr rfl
      | cons x r => exact absurd (hc x List.mem_cons_self) (by simp)
  | m + 1, nar, h, up, c => by
    rcases List.eq_nil_or_concat nar with rfl | ⟨ini, la, rfl⟩
    · simp at h
    rw [List.concat_eq_append] at h up ⊢
    rw [List.length_append, List.length_singleton] at h
    have u := List.pairwise_append.mp up
    have ih := subsD_in m ini (by omega) u.1
    rw [subsD_snoc]
    constructor
    · intro hc
      rcases List.mem_append.mp hc with hc | hc
      · have := (ih c).mp hc
        exact ⟨this.1, fun x hx => List.mem_append_left _ (this.2 x hx)⟩
      · obtain ⟨d, hd, rfl⟩ := List.mem_map.mp hc
        have := (ih d).mp hd
        refine ⟨List.pairwise_append.mpr ⟨this.1, List.pairwise_singleton _ _, fun x hx y hy => ?_⟩, fun x hx => ?_⟩
        · rw [List.mem_singleton.mp hy]
          exact u.2.2 x (this.2 x hx) la (List.mem_singleton.mpr rfl)
        · rcases List.mem_append.mp hx with hx | hx
          · exact List.mem_append_left _ (this.2 x hx)
          · exact List.mem_append_right _ hx
    · rintro ⟨cu, hc⟩
      by_cases hl : la ∈ c
      · -- la is the last of c
        obtain ⟨p, q, rfl⟩ := List.append_of_mem hl
        have cu2 := List.pairwise_append.mp cu
        have hq : q = [] := by
          cases q with
          | nil => rfl
          | cons y r =>
            have hy := (List.pairwise_cons.mp cu2.2.1).1 y List.mem_cons_self
            rcases List.mem_append.mp (hc y (List.mem_append_right _ (List.mem_cons_of_mem _ List.mem_cons_self))) with z | z
            · have := u.2.2 y z la (List.mem_singleton.mpr rfl)
              omega
            · rw [List.mem_singleton.mp z] at hy
              omega
        subst hq
        refine List.mem_append_right _ (List.mem_map.mpr ⟨p, (ih p).mpr ⟨cu2.1, fun x hx => ?_⟩, rfl⟩)
        rcases List.mem_append.mp (hc x (List.mem_append_left _ hx)) with z | z
        · exact z
        · have := cu2.2.2 x hx la List.mem_cons_self
          rw [List.mem_singleton.mp z] at this
          omega
      · refine List.mem_append_left _ ((ih c).mpr ⟨cu, fun x hx => ?_⟩)
        rcases List.mem_append.mp (hc x hx) with z | z
        · exact z
        · rw [List.mem_singleton.mp z] at hx
          exact absurd hx hl
/-- a stands ahead of b in the order of lists (of one length) -/
def LexN (a b : List Nat) : Prop := ∃ p x y r s, a = p ++ x :: r ∧ b = p ++ y :: s ∧ x < y
theorem LexN.more {a b : List Nat} (h : LexN a b) (s t : List Nat) : LexN (a ++ s) (b ++ t) := by
  obtain ⟨p, x, y, r, q, rfl, rfl, l⟩ := h
  exact ⟨p, x, y, r ++ s, q ++ t, by simp, by simp, l⟩
theorem ext_lex {nar c : List Nat} (up : nar.Pairwise (· < ·)) : (extN nar c).Pairwise LexN := by
  unfold extN
  rw [List.pairwise_map]
  exact (up.filter _).imp fun {s t} h => ⟨c, s, t, [], [], rfl, rfl, h⟩
theorem chs_lex {nar : List Nat} (up : nar.Pairwise (· < ·)) : ∀ k, (chs nar k).Pairwise LexN
  | 0 => List.pairwise_singleton _ _
  | k + 1 => by
    have ih := chs_lex up k
    show ((chs nar k).flatMap (extN nar)).Pairwise LexN
    have key : ∀ l : List (List Nat), l.Pairwise LexN → (l.flatMap (extN nar)).Pairwise LexN := by
      intro l
      induction l with
      | nil => intro _; exact .nil
      | cons c r ihl =>
        intro h
        have h' := List.pairwise_cons.mp h
        rw [List.flatMap_cons, List.pairwise_append]
        refine ⟨ext_lex up, ihl h'.2, fun x hx y hy => ?_⟩
        obtain ⟨s, _, rfl⟩ := List.mem_map.mp hx
        obtain ⟨d, hd, hy⟩ := List.mem_flatMap.mp hy
        obtain ⟨t, _, rfl⟩ := List.mem_map.mp hy
        exact (h'.1 d hd).more _ _
    exact key _ ih
/-- the program's choice is the first of all by (length, list) -/
theorem few_least {secs : List Sec} {cars : List Car} {m : Int} {c : List Nat} (h : FewW secs cars m c) : (c ∈ subsD (narL secs secs.length) ∧ loser (widen secs c) cars m = none) ∧ ∀ d ∈ subsD (narL secs secs.length), loser (widen secs d) cars m = none → d = c ∨ c.length < d.length ∨ (c.length = d.length ∧ LexN c d) := by
  have up := narL_up secs secs.length
  obtain ⟨k, pre, post, e, g, n1, n2⟩ := h
  generalize narL secs secs.length = nar at *
  have hc : c ∈ chs nar k := by rw [e]; exact List.mem_append_right _ List.mem_cons_self
  have ci := chs_in nar k c hc
  refine ⟨⟨(subsD_in _ nar rfl up c).mpr ⟨chs_up k c hc, ci.1⟩, g⟩, fun d hd gd => ?_⟩
  have dm := (subsD_in _ nar rfl up d).mp hd
  have dc := chs_mem d.length d rfl dm.1 dm.2
  rcases Nat.lt_trichotomy d.length k with lt | eq | lt
  · exact absurd gd (n2 _ lt d dc)
  · rw [eq, e] at dc
    have lx := chs_lex up k
    rw [e] at lx
    have lx2 := List.pairwise_cons.mp (List.pairwise_append.mp lx).2.1
    rcases List.mem_append.mp dc with z | z
    · exact absurd gd (n1 d z)
    · rcases List.mem_cons.mp z with z | z
      · exact .inl z
      · exact .inr (.inr ⟨by rw [ci.2, eq], lx2.1 d z⟩)
  · exact .inr (.inl (by rw [ci.2]; exact lt))
end Sl

set_option Elab.async false
set_option linter.all false
set_option maxRecDepth 100000
namespace Sl
open PySem PySem.Spec L2 OwnR LamX PySem.SeqAt
theorem firstLt_from {e r : Nat → Bool} {fin : Bool} {k : Nat} (he : e k = false) : ∀ (m a : Nat), a ≤ k → k < a + m → (∀ j, a ≤ j → j < k → e j = true) → firstLt e r fin (List.range' a m) = r k
  | 0, a, h1, h2, _ => absurd h2 (by omega)
  | m + 1, a, h1, h2, h3 => by
    rw [List.range'_succ]
    by_cases q : a = k
    · subst q
      exact firstLt_no he
    · rw [firstLt_yes (h3 a (Nat.le_refl _) (by omega))]
      exact firstLt_from he m (a + 1) (by omega) (by omega) fun j h4 h5 => h3 j (by omega) h5
theorem lex_lt {c d : List Nat} (h : LexN c d) : ltN c d = true ∧ ltN d c = false ∧ c ≠ d := by
  obtain ⟨p, x, y, r, s, rfl, rfl, lt⟩ := h
  have g1 : (p ++ x :: r).getD p.length 0 = x := by simp [List.getD]
  have g2 : (p ++ y :: s).getD p.length 0 = y := by simp [List.getD]
  have ge : ∀ j, j < p.length → (p ++ x :: r).getD j 0 = (p ++ y :: s).getD j 0 := fun j hj => by
    simp only [List.getD, List.getElem?_append_left hj]
  refine ⟨?_, ?_, fun z => ?_⟩
  · unfold ltN
    rw [List.range_eq_range', firstLt_from (k := p.length) (by simp only [g1, g2]; exact decide_eq_false (by omega)) _ 0 (Nat.zero_le _) (by simp) fun j _ hj => decide_eq_true (ge j hj)]
    simp only [g1, g2]
    exact decide_eq_true lt
  · unfold ltN
    rw [List.range_eq_range', firstLt_from (k := p.length) (by simp only [g1, g2]; exact decide_eq_false (by omega)) _ 0 (Nat.zero_le _) (by simp) fun j _ hj => decide_eq_true (ge j hj).symm]
    simp only [g1, g2]
    exact decide_eq_false (by omega)
  · have := congrArg (fun l => l.getD p.length 0) z
    simp only [g1, g2] at this
    omega
theorem best_is {cs : List (List Nat)} {c0 : List Nat} (h1 : ∀ d ∈ cs, ltK d c0 = false) (h2 : ∀ d ∈ cs, d ≠ c0 → ltK c0 d = true) (h3 : c0 ∈ cs) : cs[argBest (fun i j => ltK (cs.getD i []) (cs.getD j [])) (cs.length - 1)]? = some c0 := by
  obtain ⟨q, hq⟩ := List.mem_iff_getElem?.mp h3
  have ql := (List.getElem?_eq_some_iff.mp hq).1
  have gd : ∀ {i : Nat} {d : List Nat}, cs[i]? = some d → cs.getD i [] = d := fun h => by simp [List.getD, h]
  have key : ∀ k, k < cs.length → (argBest (fun i j => ltK (cs.getD i []) (cs.getD j [])) k ≤ k) ∧ (q ≤ k → cs[argBest (fun i j => ltK (cs.getD i []) (cs.getD j [])) k]? = some c0) := by
    intro k
    induction k with
    | zero =>
      intro _
      refine ⟨Nat.le_refl _, fun h => ?_⟩
      have : q = 0 := by omega
      subst this
      exact hq
    | succ k ih =>
      intro hk
      obtain ⟨i1, i2⟩ := ih (by omega)
      obtain ⟨d, hd⟩ : ∃ d, cs[k + 1]? = some d := ⟨_, List.getElem?_eq_getElem hk⟩
      obtain ⟨b, hb⟩ : ∃ b, cs[argBest (fun i j => ltK (cs.getD i []) (cs.getD j [])) k]? = some b := ⟨_, List.getElem?_eq_getElem (by omega)⟩
      have step : argBest (fun i j => ltK (cs.getD i []) (cs.getD j [])) (k + 1) = if ltK d b = true then k + 1 else argBest (fun i j => ltK (cs.getD i []) (cs.getD j [])) k := by
        show (if ltK (cs.getD (k + 1) []) (cs.getD (argBest (fun i j => ltK (cs.getD i []) (cs.getD j [])) k) []) = true then _ else _) = _
        rw [gd hd, gd hb]
      rw [step]
      refine ⟨by split <;> omega, fun h => ?_⟩
      by_cases e : q ≤ k
      · have hb0 := i2 e
        rw [hb] at hb0
        obtain rfl := Option.some.inj hb0
        rw [if_neg (by rw [h1 d (List.mem_of_getElem? hd)]; decide)]
        exact hb
      · have : q = k + 1 := by omega
        subst this
        rw [hd] at hq
        obtain rfl := Option.some.inj hq
        by_cases eb : b = d
        · subst eb
          split
          · exact hd
          · exact hb
        · rw [if_pos (h2 b (List.mem_of_getElem? hb) eb)]
          exact hd
  exact (key _ (by omega)).2 (by omega)
/-- the first of the good choices is the program's -/
theorem few_best {secs : List Sec} {cars : List Car} {m : Int} {c : List Nat} (h : FewW secs cars m c) : ((subsD (narL secs secs.length)).filter fun d => decide (loser (widen secs d) cars m = none))[argBest (fun i j => ltK (((subsD (narL secs secs.length)).filter fun d => decide (loser (widen secs d) cars m = none)).getD i []) (((subsD (narL secs secs.length)).filter fun d => decide (loser (widen secs d) cars m = none)).getD j [])) (((subsD (narL secs secs.length)).filter fun d => decide (loser (widen secs d) cars m = none)).length - 1)]? = some c := by
  obtain ⟨⟨a1, a2⟩, a3⟩ := few_least h
  have all : ∀ d ∈ (subsD (narL secs secs.length)).filter fun d => decide (loser (widen secs d) cars m = none), d = c ∨ c.length < d.length ∨ (c.length = d.length ∧ LexN c d) := fun d hd => by
    obtain ⟨b1, b2⟩ := List.mem_filter.mp hd
    exact a3 d b1 (of_decide_eq_true b2)
  refine best_is (fun d hd => ?_) (fun d hd ne => ?_) (List.mem_filter.mpr ⟨a1, decide_eq_true a2⟩)
  · unfold ltK
    rcases all d hd with rfl | lt | ⟨eq, lx⟩
    · simp
    · rw [if_neg (by omega)]
      exact decide_eq_false (by omega)
    · obtain ⟨l1, l2, l3⟩ := lex_lt lx
      rw [if_pos eq.symm, if_neg (fun z => l3 z.symm)]
      exact l2
  · unfold ltK
    rcases all d hd with rfl | lt | ⟨eq, lx⟩
    · exact absurd rfl ne
    · rw [if_neg (by omega)]
      exact decide_eq_true lt
    · obtain ⟨l1, l2, l3⟩ := lex_lt lx
      rw [if_pos eq, if_neg l3]
      exact l1
end Sl

set_option Elab.async false
set_option linter.all false
set_option maxRecDepth 100000
set_option maxHeartbeats 2000000
/-! sorted(xs, key=lambda y: (len(y), y)), xs a list of lists of numbers -/
namespace Sl
open PySem PySem.Spec L2 OwnR LamX PySem.SeqAt
/-! ### the order -/
theorem lexN_nil {b : List Nat} : ¬ LexN [] b := fun ⟨p, x, y, r, s, e, _⟩ => by simp at e
theorem lexN_nil2 {a : List Nat} : ¬ LexN a [] := fun ⟨p, x, y, r, s, _, e, _⟩ => by simp at e
theorem lexN_cons {x y : Nat} {a b : List Nat} : LexN (x :: a) (y :: b) ↔ x < y ∨ (x = y ∧ LexN a b) := by
  constructor
  · rintro ⟨p, u, v, r, s, e1, e2, l⟩
    cases p with
    | nil =>
      cases e1
      cases e2
      exact .inl l
    | cons z p =>
      cases e1
      injection e2 with e3 e4
      subst e3
      exact .inr ⟨rfl, p, u, v, r, s, rfl, e4, l⟩
  · rintro (h | ⟨rfl, p, u, v, r, s, rfl, rfl, l⟩)
    · exact ⟨[], x, y, a, b, rfl, rfl, h⟩
    · exact ⟨x :: p, u, v, r, s, rfl, rfl, l⟩
theorem lexN_trans : ∀ {a b c : List Nat}, LexN a b → LexN b c → LexN a c
  | [], _, _, h, _ => absurd h lexN_nil
  | _ :: _, [], _, h, _ => absurd h lexN_nil2
  | _ :: _, _ :: _, [], _, h => absurd h lexN_nil2
  | x :: a, y :: b, z :: c, h1, h2 => by
    rw [lexN_cons] at h1 h2 ⊢
    rcases h1 with h1 | ⟨rfl, h1⟩
    · rcases h2 with h2 | ⟨rfl, h2⟩
      · exact .inl (by omega)
      · exact .inl h1
    · rcases h2 with h2 | ⟨rfl, h2⟩
      · exact .inl h2
      · exact .inr ⟨rfl, lexN_trans h1 h2⟩
theorem lexN_irr : ∀ {a : List Nat}, ¬ LexN a a
  | [], h => lexN_nil h
  | x :: a, h => by
    rw [lexN_cons] at h
    rcases h with h | ⟨_, h⟩
    · omega
    · exact lexN_irr h
theorem lexN_tri : ∀ {a b : List Nat}, a.length = b.length → a = b ∨ LexN a b ∨ LexN b a
  | [], [], _ => .inl rfl
  | [], _ :: _, h => by simp at h
  | _ :: _, [], h => by simp at h
  | x :: a, y :: b, h => by
    rcases Nat.lt_trichotomy x y with l | rfl | l
    · exact .inr (.inl (lexN_cons.mpr (.inl l)))
    · rcases lexN_tri (a := a) (b := b) (by simpa using h) with rfl | h | h
      · exact .inl rfl
      · exact .inr (.inl (lexN_cons.mpr (.inr ⟨rfl, h⟩)))
      · exact .inr (.inr (lexN_cons.mpr (.inr ⟨rfl, h⟩)))
    · exact .inr (.inr (lexN_cons.mpr (.inl l)))
theorem ltK_iff {c d : List Nat} : ltK c d = true ↔ c.length < d.length ∨ (c.length = d.length ∧ LexN c d) := by
  unfold ltK
  by_cases h : c.length = d.length
  · rw [if_pos h]
    by_cases g : c = d
    · subst g
      rw [if_pos rfl]
      constructor
      · intro z; cases z
      · rintro (z | ⟨_, z⟩)
        · omega
        · exact absurd z lexN_irr
    · rw [if_neg g]
      rcases lexN_tri h with e | e | e
      · exact absurd e g
      · rw [(lex_lt e).1]
        exact ⟨fun _ => .inr ⟨h, e⟩, fun _ => rfl⟩
      · rw [(lex_lt e).2.1]
        constructor
        · intro z; cases z
        · rintro (z | ⟨_, z⟩)
          · omega
          · exact absurd (lexN_trans z e) lexN_irr
  · rw [if_neg h]
    constructor
    · intro z
      exact .inl (of_decide_eq_true z)
    · rintro (z | ⟨z, _⟩)
      · exact decide_eq_true z
      · exact absurd z h
theorem swo_ltK : SrtO.Swo ltK where
  asym := fun x y h => by
    cases q : ltK y x with
    | false => rfl
    | true =>
      rw [ltK_iff] at h q
      rcases h with h | ⟨e, h⟩
      · rcases q with q | ⟨e2, q⟩ <;> omega
      · rcases q with q | ⟨e2, q⟩
        · omega
        · exact absurd (lexN_trans h q) lexN_irr
  tr := fun x y z h1 h2 => by
    cases q : ltK z x with
    | false => rfl
    | true =>
      have n1 : ¬ (y.length < x.length ∨ (y.length = x.length ∧ LexN y x)) := fun w => by rw [ltK_iff.mpr w] at h1; cases h1
      have n2 : ¬ (z.length < y.length ∨ (z.length = y.length ∧ LexN z y)) := fun w => by rw [ltK_iff.mpr w] at h2; cases h2
      rw [ltK_iff] at q
      exfalso
      rcases q with q | ⟨e, q⟩
      · have a1 : ¬ y.length < x.length := fun w => n1 (.inl w)
        have a2 : ¬ z.length < y.length := fun w => n2 (.inl w)
        omega
      · have a1 : ¬ y.length < x.length := fun w => n1 (.inl w)
        have a2 : ¬ z.length < y.length := fun w => n2 (.inl w)
        have e1 : x.length = y.length := by omega
        rcases lexN_tri e1 with rfl | l | l
        · exact n2 (.inr ⟨e, q⟩)
        · exact n2 (.inr ⟨by omega, lexN_trans q l⟩)
        · exact n1 (.inr ⟨e1.symm, l⟩)
theorem swo_map {α β : Type} {lt : β → β → Bool} (O : SrtO.Swo lt) (f : α → β) : SrtO.Swo fun x y => lt (f x) (f y) := ⟨fun x y h => O.asym _ _ h, fun x y z h1 h2 => O.tr _ _ _ h1 h2⟩
/-! ### list.sort by such keys -/
end Sl
namespace OwnR
open PySem PySem.Spec PyProof.Rows L2 LamX Sl PySem.SeqAt
/-- the key of the item at l, in the heap -/
def KeyOf (h : Heap) (cf : Value → List Nat) (p : Keyed) : Prop := ∃ (t l : Addr) (tok : Tok) (us : List Value), p = (.ref t, .ref l) ∧ h.get? t = some (seqObj "tuple" #[.int (((cf (.ref l)).length : Nat) : Int) tok, .ref l] 0) ∧ h.IsList l us.toArray ∧ Vals (natV (cf (.ref l))) us
section
variable {prog : Program} {w : World} {A : Around} {E : Value → Shared → Prop} {s : Shared} {cf : Value → List Nat}
theorem kt_cmp (hu : A.units + 32 < cLine) : SrtO.Cmp prog w A s (tuples' true) (KeyOf s.heap cf) fun p q => ltK (cf p.2) (cf q.2) := by
  intro p q hp hq
  obtain ⟨t, l, tok, us, rfl, ht, hl, ru⟩ := hp
  obtain ⟨t', l', tok', us', rfl, ht', hl', ru'⟩ := hq
  show wpAny (model prog w) A (keyLt' (tuples' true) (.ref t) (.ref t')) (fun r s' => s' = s ∧ r = ltK (cf (.ref l)) (cf (.ref l'))) (fun _ _ => False) s
  generalize cf (.ref l) = c at *
  generalize cf (.ref l') = d at *
  refine PySem.W.kat_lt ht rfl ht' rfl ?_
  show PySem.W.KatLex prog w A true (decide (2 < 2)) _ [(.int ((c.length : Nat) : Int) tok, .int ((d.length : Nat) : Int) tok'), (.ref l, .ref l')] 0 s
  refine PySem.W.kat_cons (SeqAt.EqAt.int_int _ _ _ _ prog w _ _ ?_)
  refine PySem.W.kat_go (fun e1 => ?_) (fun e1 => ?_)
  · have ex : c.length = d.length := by
      have : ((c.length : Nat) : Int) = ((d.length : Nat) : Int) := by simpa using e1
      omega
    obtain ⟨o1, g1, k1, n1, x1⟩ := id hl
    obtain ⟨o2, g2, k2, n2, x2⟩ := id hl'
    obtain ⟨as, ra⟩ := reads_nats (h := s.heap) ru
    obtain ⟨bs, rb⟩ := reads_nats (h := s.heap) ru'
    have can : ∀ c : List Nat, (natsD c).canLay0 = true ∧ (natsD c).depth ≤ 1 := fun c => (shp_list (n := 0) fun e he => by
      obtain ⟨x, _, rfl⟩ := List.mem_map.mp he
      exact shp_int _)
    refine PySem.W.kat_yes (PySem.W.kat_cons (eqAt_reads (natsD c) (natsD d) A s (.ref l) (.ref l') _ _ (.list g1 k1 x1 (by simpa using ra)) (.list g2 k2 x2 (by simpa using rb)) (can c).1 (can d).1 (by have h1 := (can c).2; show A.units + min (natsD c).depth (natsD d).depth < cLine; omega) prog w _ _ ?_))
    rw [show PyData.eqv (natsD c) (natsD d) = decide (c = d) from eqv_nats c d]
    refine PySem.W.kat_go (fun e2 => ?_) (fun e2 => ?_)
    · have e2 : c = d := of_decide_eq_true e2
      refine PySem.W.kat_yes (PySem.W.kat_nil ⟨rfl, ?_⟩)
      subst e2
      unfold ltK
      simp
    · have e2 : ¬ c = d := of_decide_eq_false e2
      refine PySem.W.kat_no ?_
      show wpAny (model prog w) A (oneLt' false (.ref l) (.ref l')) _ _ s
      refine PySem.W.kat_one _ _ ?_
      refine lt_nats hl hl' ru ru' (by omega) prog w _ _ ?_
      refine ⟨rfl, ?_⟩
      unfold ltK
      rw [if_pos ex, if_neg e2]
  · have ex : ¬ c.length = d.length := by
      have : ¬ ((c.length : Nat) : Int) = ((d.length : Nat) : Int) := by simpa using e1
      omega
    refine PySem.W.kat_no (oneLt_int ⟨rfl, ?_⟩)
    unfold ltK
    rw [if_neg ex, decide_eq_decide]
    omega
theorem kt_firsts {h : Heap} : ∀ keys : List Value, (∀ k ∈ keys, ∃ t tok n x, k = Value.ref t ∧ h.get? t = some (seqObj "tuple" #[.int n tok, x] 0)) → ∃ fs : List Value, PySem.W.KatTups h keys fs ∧ fs.length = keys.length ∧ ∀ f ∈ fs, ∃ n tok, f = Value.int n tok
  | [], _ => ⟨[], .nil, rfl, fun f hf => nomatch hf⟩
  | k :: keys, hk => by
    obtain ⟨fs, h1, h2, h3⟩ := kt_firsts keys fun k' hk' => hk k' (List.mem_cons_of_mem _ hk')
    obtain ⟨t, tok, n, x, rfl, ht⟩ := hk k List.mem_cons_self
    refine ⟨.int n tok :: fs, PySem.W.KatTups.cons ht rfl rfl rfl h1, by rw [List.length_cons, List.length_cons, h2], fun f hf => ?_⟩
    rcases List.mem_cons.mp hf with rfl | hf
    · exact ⟨n, tok, rfl⟩
    · exact h3 f hf
end
section
variable {prog : Program} {w : World} {A : Around} {E : Value → Shared → Prop} {s : Shared} {h₀ : Heap} {L : Addr} {m : Str → Option Value} {news nw : List (Addr × Obj)} {a kS : Addr} {vs : List Value} {keys : Array Value} {e e1 : Nat} {P : PySem.Fin → Shared → Prop} {cf : Value → List Nat}
theorem kt_tail {st : SortSt} (F : Fr h₀ L s.heap m) (N : News h₀ L s.heap (nw ++ [(kS, seqObj "list" keys e), (a, seqObj "list" #[] e1)])) (hka : kS ≠ a) (hnk : ∀ p ∈ nw, p.1 ≠ kS) (hna : ∀ p ∈ nw, p.1 ≠ a)
    (hks : keys.size ≤ sizeLine) (hsz : (arrOf st).size ≤ sizeLine) (hfl : failedOf st = none)
    (h : ∀ h' tk c, Fr h₀ L h' m → News h₀ L h' ((a, seqObj "list" ((arrOf st).map (·.2)) c) :: nw) → P (.done (.ret .none)) { s with heap := h', toks := tk }) :
    wpAny (model prog w) A (ksk_tail a false e1 (.ref kS) st) P E s := by
  have nk := N (kS, seqObj "list" keys e) (List.mem_append_right _ (.head _))
  have na := N (a, seqObj "list" #[] e1) (List.mem_append_right _ (.tail _ (.head _)))
  have Nn : News h₀ L s.heap nw := fun p hp => N p (List.mem_append_left _ hp)
  have s1 := Heap.SameBut.update s.heap kS (Obj.mapSeq fun _ => (#[] : Array Value))
  have na1 : (s.heap.update kS (Obj.mapSeq fun _ => (#[] : Array Value))).get? a = some (seqObj "list" #[] e1) := (s1.2 a hka.symm).trans na.1
  have s2 := Heap.SameBut.update (s.heap.update kS (Obj.mapSeq fun _ => (#[] : Array Value))) a (Obj.mapSeq fun _ => (arrOf st).map (·.2))
  obtain ⟨c2, hc2⟩ : ∃ c2, ((s.heap.update kS (Obj.mapSeq fun _ => (#[] : Array Value))).update a (Obj.mapSeq fun _ => (arrOf st).map (·.2))).get? a = some (seqObj "list" ((arrOf st).map (·.2)) c2) :=
    ⟨_, get?_update_seq na1 fun _ => (arrOf st).map (·.2)⟩
  have N2 := ksk_news (ksk_news Nn s1 hnk) s2 hna
  unfold ksk_tail
  try dsimp only
  refine wpAny_bind (listUpdate_at nk.1 rfl ?_ (by rw [sizeLine_eq] at *; omega) (Nat.zero_le _))
  refine wpAny_bind (wpAny_letGo ?_)
  refine wpAny_bind (seqEpoch_at na1 rfl ?_)
  simp only [Bool.false_eq_true, if_false]
  refine wpAny_bind (listUpdate_at na1 rfl ?_ (Nat.zero_le _) (by rw [Array.size_map]; rw [sizeLine_eq] at *; omega))
  rw [hfl]
  simp only [bne_self_eq_false, Bool.false_eq_true, if_false]
  refine wpAny_pure (h _ _ c2 (ksk_fr (ksk_fr F s1 nk.2.1 nk.2.2) s2 na.2.1 na.2.2) (fun p hp => ?_))
  rcases List.mem_cons.mp hp with rfl | hp
  · exact ⟨hc2, na.2⟩
  · exact N2 p hp
theorem kt_end (F : Fr h₀ L s.heap m) (N : News h₀ L s.heap (nw ++ [(kS, seqObj "list" keys e), (a, seqObj "list" #[] e1)])) (hka : kS ≠ a) (hnk : ∀ p ∈ nw, p.1 ≠ kS) (hna : ∀ p ∈ nw, p.1 ≠ a)
    (hl : keys.size = vs.length) (hZ : vs.length ≤ sizeLine) (hk : ∀ (i : Nat) (k v : Value), keys.toList[i]? = some k → vs[i]? = some v → KeyOf s.heap cf (k, v)) (hu : A.units + 32 < cLine)
    (h : ∀ h' tk out c, Fr h₀ L h' m → News h₀ L h' ((a, seqObj "list" out c) :: nw) → out.toList.Perm vs → SrtO.Srtd (fun x y => ltK (cf x) (cf y)) out.toList → P (.done (.ret .none)) { s with heap := h', toks := tk }) :
    wpAny (model prog w) A (ksk_end a false vs.toArray e1 (.ref kS) keys) P E s := by
  have ezl : (keys.zip vs.toArray).toList = keys.toList.zip vs := ksk_zip _ _
  have hzs : (keys.zip vs.toArray).size = vs.length := by rw [Array.size_zip, hl, List.size_toArray, Nat.min_self]
  have esn : ((keys.zip vs.toArray).toList).map (·.2) = vs := by
    rw [ezl, List.map_snd_zip (by simp [hl])]
  have hall : SrtO.AllL (KeyOf s.heap cf) (keys.zip vs.toArray).toList := fun p hp => by
    rw [ezl] at hp
    obtain ⟨i, hi⟩ := List.mem_iff_getElem?.mp hp
    obtain ⟨i1, i2⟩ := List.getElem?_zip_eq_some.mp hi
    exact hk i p.1 p.2 i1 i2
  have fin : ∀ st' : SortSt, (arrOf st').toList.Perm (keys.zip vs.toArray).toList → SrtO.Srtd (fun p q : Keyed => ltK (cf p.2) (cf q.2)) (arrOf st').toList → failedOf st' = none → wpAny (model prog w) A (ksk_tail a false e1 (.ref kS) st') P E s := fun st' hp hs hf => by
    have hsz : (arrOf st').size = vs.length := by
      have := hp.length_eq
      rw [Array.length_toList, Array.length_toList, hzs] at this
      exact this
    refine kt_tail F N hka hnk hna (by omega) (by omega) hf fun h' tk c F' N' => h h' tk _ c F' N' ?_ ?_
    · rw [Array.toList_map]
      have := hp.map (·.2)
      rw [esn] at this
      exact this
    · rw [Array.toList_map]
      exact List.pairwise_map.mpr hs
  unfold ksk_end
  simp only [Bool.false_eq_true, if_false]
  try dsimp only
  by_cases h2 : vs.toArray.size < 2
  · rw [if_pos h2, if_pos h2]
    refine wpAny_bind (wpAny_pure ?_)
    rw [StateT.run_pure]
    refine wpAny_bind (wpAny_pure ?_)
    try dsimp only
    refine fin (SortSt.mk' general' (keys.zip vs.toArray) #[] 7 none) (List.Perm.refl _) ?_ rfl
    show SrtO.Srtd _ (keys.zip vs.toArray).toList
    have hl2 : (keys.zip vs.toArray).toList.length < 2 := by rw [Array.length_toList, hzs]; rw [List.size_toArray] at h2; exact h2
    match (keys.zip vs.toArray).toList, hl2 with
    | [], _ => exact List.Pairwise.nil
    | [x], _ => exact List.pairwise_singleton _ _
    | _ :: _ :: l, hh => exact absurd hh (by rw [List.length_cons, List.length_cons]; omega)
  · rw [if_neg h2, if_neg h2]
    rw [List.size_toArray] at h2
    obtain ⟨fs, f1, f2, f3⟩ := kt_firsts (h := s.heap) keys.toList fun k hm => by
      obtain ⟨i, hi⟩ := List.mem_iff_getElem?.mp hm
      have il : i < keys.toList.length := (List.getElem?_eq_some_iff.mp hi).1
      rw [Array.length_toList] at il
      obtain ⟨v, hv⟩ : ∃ v, vs[i]? = some v := ⟨_, List.getElem?_eq_getElem (by omega)⟩
      obtain ⟨t, l, tok, us, ep, ht, _⟩ := hk i k v hi hv
      cases ep
      exact ⟨t, tok, _, _, rfl, ht⟩
    have ek : keys = keys.toList.toArray := by simp
    refine wpAny_bind ?_
    have f2 : fs.length = vs.length := by rw [f2]; simp [hl]
    have kd : wpAny (model prog w) A (keyKind' keys) (fun κ s' => κ = tuples' true ∧ s' = s) E s := by
      rw [ek]
      refine PySem.W.kat_kind (T := .type "int") f1 (by omega) (fun f hm => ?_) (by rfl) ?_
      · obtain ⟨x, t, rfl⟩ := f3 f hm
        exact PySem.W.Looks.now
      · have e : (Value.type "int" != Value.type "tuple") = true := by first | decide +kernel | rfl | decide
        rw [e]
        exact ⟨rfl, rfl⟩
    refine wpAny_mono kd (fun κ s' hκ => ?_) fun _ _ x => x
    obtain ⟨rfl, rfl⟩ := hκ
    refine wpAny_bind (wpAny_mono (SrtO.wpS_sortO (st0 := SortSt.mk' (tuples' true) (keys.zip vs.toArray) #[] 7 none)
      (Q := fun _ st' => SrtO.Srtd (fun p q : Keyed => ltK (cf p.2) (cf q.2)) (arrOf st').toList ∧ SrtO.Stb (fun p q : Keyed => ltK (cf p.2) (cf q.2)) (arrOf st').toList (keys.zip vs.toArray).toList ∧ failedOf st' = none) (swo_map swo_ltK fun p : Keyed => cf p.2) (kt_cmp hu) rfl hall rfl rfl fun st' a1 a2 a3 => ⟨a1, a2, a3⟩) ?_ fun _ _ e => e)
    rintro ⟨⟨⟩, st'⟩ s' ⟨rfl, hp1, hp2, hf⟩
    try dsimp only
    exact fin st' hp2.perm hp1 hf
theorem kt_rest {f : Value} (F : Fr h₀ L s.heap m) (N : News h₀ L s.heap (news ++ [(kS, seqObj "list" #[] 0), (a, seqObj "list" #[] e1)])) (hka : kS ≠ a) (hnk : ∀ p ∈ news, p.1 ≠ kS) (hna : ∀ p ∈ news, p.1 ≠ a)
    (hZ : vs.length ≤ sizeLine) (hu : A.units + 32 < cLine)
    (hls : ∀ h, Fr h₀ L h m → News h₀ L h news → ∀ v ∈ vs, ∃ l us, v = Value.ref l ∧ h.IsList l us.toArray ∧ Vals (natV (cf (.ref l))) us)
    (turn : ∀ (i : Nat) (v : Value), vs[i]? = some v → ∀ (h : Heap) (tk : Nat) (own : List (Addr × Obj)), Fr h₀ L h m → News h₀ L h (news ++ own) →
      wpAny (model prog w) A (call f [v]) (fun r s'' => ∃ h' tk' t l tok, s'' = { s with heap := h', toks := tk' } ∧ r = .ref t ∧ v = .ref l ∧ Fr h₀ L h' m ∧ News h₀ L h' ((t, seqObj "tuple" #[.int (((cf (.ref l)).length : Nat) : Int) tok, .ref l] 0) :: (news ++ own))) (fun _ _ => False) { s with heap := h, toks := tk })
    (h : ∀ h' tk out c, Fr h₀ L h' m → News h₀ L h' ((a, seqObj "list" out c) :: news) → out.toList.Perm vs → SrtO.Srtd (fun x y => ltK (cf x) (cf y)) out.toList → P (.done (.ret .none)) { s with heap := h', toks := tk }) :
    wpAny (model prog w) A (ksk_rest a f false vs.toArray e1 (.ref kS)) P E s := by
  have hZ2 := hZ
  rw [sizeLine_eq] at hZ2
  have neq : ∀ {h' : Heap} {t b : Addr} {xs ys : Array Value} {n k : Nat}, h'.get? t = some (seqObj "tuple" xs n) → h'.get? b = some (seqObj "list" ys k) → t ≠ b := fun {h' t b xs ys n k} e1 e2 z => by
    rw [z, e2] at e1
    have e1 : seqObj "list" ys k = seqObj "tuple" xs n := Option.some.inj e1
    have := congrArg Obj.cls e1
    exact absurd (Value.type.inj this) (by decide)
  unfold ksk_rest
  refine wpAny_bind (wpAny_rule ?_)
  first
    | rw [List.forIn_toArray]
    | (rw [← Array.forIn_toList]; simp only [List.toList_toArray])
    | rw [← Array.forIn_toList]
  refine wpAny_bind (ksk_fold (fun i s' => ∃ h' tk kA e nw, s' = { s with heap := h', toks := tk } ∧ Fr h₀ L h' m ∧ News h₀ L h' ((news ++ nw) ++ [(kS, seqObj "list" kA e), (a, seqObj "list" #[] e1)]) ∧ kA.size = i ∧ (∀ p ∈ nw, ∃ xs n, p.2 = seqObj "tuple" xs n) ∧
      ∀ (j : Nat) (k v : Value), kA.toList[j]? = some k → vs[j]? = some v → ∃ t l tok, k = .ref t ∧ v = .ref l ∧ (t, seqObj "tuple" #[.int (((cf (.ref l)).length : Nat) : Int) tok, .ref l] 0) ∈ nw) vs 0 s
    ⟨s.heap, s.toks, #[], 0, [], rfl, F, by rw [List.append_nil]; exact N, rfl, fun p hp => (nomatch hp), fun j k v e => by simp at e⟩ ?step ?done)
  case step =>
    rintro j x s' hx ⟨h', tk, kA, e, nw, rfl, F', N', hk, hcl, hkey⟩
    simp only [Nat.zero_add] at hk ⊢
    have hj : j < vs.length := (List.getElem?_eq_some_iff.mp hx).1
    refine wpAny_bind (wpAny_attempt (wpAny_mono (turn j x hx h' tk (nw ++ [(kS, seqObj "list" kA e), (a, seqObj "list" #[] e1)]) F' (by rw [← List.append_assoc]; exact N')) (fun v s'' he => ?_) fun _ _ hF => hF.elim))
    obtain ⟨g, tk2, t, l, tok, rfl, rfl, rfl, F2, N2⟩ := he
    try dsimp only
    have at_t := (N2 _ List.mem_cons_self).1
    have N2' : News h₀ L g (news ++ nw ++ [(kS, seqObj "list" kA e), (a, seqObj "list" #[] e1)]) := fun p hp => N2 p (List.mem_cons_of_mem _ (by rw [← List.append_assoc]; exact hp))
    have nk := N2' (kS, seqObj "list" kA e) (List.mem_append_right _ (.head _))
    have na := N2' (a, seqObj "list" #[] e1) (List.mem_append_right _ (.tail _ (.head _)))
    have s1 := Heap.SameBut.update g kS (Obj.mapSeq (·.push (.ref t)))
    obtain ⟨c2, hc2⟩ : ∃ c2, (g.update kS (Obj.mapSeq (·.push (.ref t)))).get? kS = some (seqObj "list" (kA.push (.ref t)) c2) := ⟨_, get?_update_seq nk.1 (·.push (.ref t))⟩
    have tk_ : t ≠ kS := neq at_t nk.1
    refine wpAny_bind (listUpdate_at nk.1 rfl ?_ (by rw [sizeLine_eq]; omega) (Nat.le_trans (Nat.le_of_eq (Array.size_push ..)) (by rw [sizeLine_eq]; omega)))
    refine wpAny_pure ⟨rfl, _, _, kA.push (.ref t), c2, nw ++ [(t, seqObj "tuple" #[.int (((cf (.ref l)).length : Nat) : Int) tok, .ref l] 0)], rfl, ksk_fr F2 s1 nk.2.1 nk.2.2, fun p hp => ?_, by rw [Array.size_push, hk], fun p hp => ?_, fun i k v ek ev => ?_⟩
    · rcases List.mem_append.mp hp with hp | hp
      · rcases List.mem_append.mp hp with hp | hp
        · exact ksk_news (fun q hq => N2' q (List.mem_append_left _ (List.mem_append_left _ hq))) s1 hnk p hp
        · rcases List.mem_append.mp hp with hp | hp
          · have nn : p.1 ≠ kS := by
              obtain ⟨xs, n, ep⟩ := hcl p hp
              have e1 := (N2' p (List.mem_append_left _ (List.mem_append_right _ hp))).1
              rw [ep] at e1
              exact neq e1 nk.1
            exact ⟨(s1.2 p.1 nn).trans (N2' p (List.mem_append_left _ (List.mem_append_right _ hp))).1, (N2' p (List.mem_append_left _ (List.mem_append_right _ hp))).2⟩
          · rw [List.mem_singleton.mp hp]
            exact ⟨(s1.2 t tk_).trans at_t, (N2 _ List.mem_cons_self).2⟩
      · rcases List.mem_cons.mp hp with rfl | hp
        · exact ⟨hc2, nk.2⟩
        · rw [List.mem_singleton.mp hp]
          exact ⟨(s1.2 a hka.symm).trans na.1, na.2⟩
    · rcases List.mem_append.mp hp with hp | hp
      · exact hcl p hp
      · rw [List.mem_singleton.mp hp]
        exact ⟨_, _, rfl⟩
    · rw [Array.toList_push] at ek
      by_cases hij : i < kA.toList.length
      · rw [List.getElem?_append_left hij] at ek
        obtain ⟨t', l', tok', z1, z2, z3⟩ := hkey i k v ek ev
        exact ⟨t', l', tok', z1, z2, List.mem_append_left _ z3⟩
      · rw [List.getElem?_append_right (by omega), Array.length_toList] at ek
        have il : i - kA.size = 0 := by
          have := (List.getElem?_eq_some_iff.mp ek).1
          rw [List.length_singleton] at this
          omega
        rw [il] at ek
        have ij : i = j := by rw [Array.length_toList] at hij; omega
        subst ij
        rw [hx] at ev
        exact ⟨t, l, tok, (Option.some.inj ek).symm, (Option.some.inj ev).symm, List.mem_append_right _ (List.mem_singleton.mpr rfl)⟩
  case done =>
    rintro s' ⟨h', tk, kA, e, nw, rfl, F', N', hk, hcl, hkey⟩
    rw [Nat.zero_add] at hk
    have nk := N' (kS, seqObj "list" kA e) (List.mem_append_right _ (.head _))
    have na := N' (a, seqObj "list" #[] e1) (List.mem_append_right _ (.tail _ (.head _)))
    have Nn : News h₀ L h' news := fun q hq => N' q (List.mem_append_left _ (List.mem_append_left _ hq))
    have nn : ∀ b ys k, h'.get? b = some (seqObj "list" ys k) → ∀ p ∈ nw, p.1 ≠ b := fun b ys k eb p hp => by
      obtain ⟨xs, n, ep⟩ := hcl p hp
      have e1 := (N' p (List.mem_append_left _ (List.mem_append_right _ hp))).1
      rw [ep] at e1
      exact neq e1 eb
    try dsimp only
    refine wpAny_bind (listItems_at nk.1 rfl ?_)
    refine kt_end (s := { s with heap := h', toks := tk }) F' N' hka (fun p hp => ?_) (fun p hp => ?_) hk hZ (fun i k v ek ev => ?_) hu fun h3 tk3 out c F3 N3 k3 k4 => h h3 tk3 out c F3 (fun p hp => ?_) k3 k4
    · rcases List.mem_append.mp hp with hp | hp
      · exact hnk p hp
      · exact nn _ _ _ nk.1 p hp
    · rcases List.mem_append.mp hp with hp | hp
      · exact hna p hp
      · exact nn _ _ _ na.1 p hp
    · obtain ⟨t, l, tok, rfl, rfl, z3⟩ := hkey i k v ek ev
      obtain ⟨l', us, y1, y2, y3⟩ := hls h' F' Nn _ (List.mem_of_getElem? ev)
      cases y1
      exact ⟨t, l, tok, us, rfl, (N' _ (List.mem_append_left _ (List.mem_append_right _ z3))).1, y2, y3⟩
    · rcases List.mem_cons.mp hp with rfl | hp
      · exact N3 _ List.mem_cons_self
      · exact N3 p (List.mem_cons_of_mem _ (List.mem_append_left _ hp))
theorem kt_sort {f : Value} {n : Nat} (F : Fr h₀ L s.heap m) (N : News h₀ L s.heap news) (ho : s.heap.get? a = some (seqObj "list" vs.toArray n)) (haL : a ≠ L) (ha0 : h₀.get? a = none) (hna : ∀ p ∈ news, p.1 ≠ a)
    (hZ : vs.length ≤ sizeLine) (hu : A.units + 32 < cLine)
    (hls : ∀ h, Fr h₀ L h m → News h₀ L h news → ∀ v ∈ vs, ∃ l us, v = Value.ref l ∧ h.IsList l us.toArray ∧ Vals (natV (cf (.ref l))) us)
    (turn : ∀ (i : Nat) (v : Value), vs[i]? = some v → ∀ (h : Heap) (tk : Nat) (own : List (Addr × Obj)), Fr h₀ L h m → News h₀ L h (news ++ own) →
      wpAny (model prog w) A (call f [v]) (fun r s'' => ∃ h' tk' t l tok, s'' = { s with heap := h', toks := tk' } ∧ r = .ref t ∧ v = .ref l ∧ Fr h₀ L h' m ∧ News h₀ L h' ((t, seqObj "tuple" #[.int (((cf (.ref l)).length : Nat) : Int) tok, .ref l] 0) :: (news ++ own))) (fun _ _ => False) { s with heap := h, toks := tk })
    (h : ∀ h' tk out c, Fr h₀ L h' m → News h₀ L h' ((a, seqObj "list" out c) :: news) → out.toList.Perm vs → SrtO.Srtd (fun x y => ltK (cf x) (cf y)) out.toList → P (.done (.ret .none)) { s with heap := h', toks := tk }) :
    wpAny (model prog w) A (ksk_tree a f false) P E s := by
  have hZ2 := hZ
  rw [sizeLine_eq] at hZ2
  have ha : a < s.heap.objs.size := Heap.lt_size ho
  have s1 := Heap.SameBut.update s.heap a (Obj.mapSeq fun _ => (#[] : Array Value))
  obtain ⟨e1, ho1⟩ : ∃ e1, (s.heap.update a (Obj.mapSeq fun _ => (#[] : Array Value))).get? a = some (seqObj "list" #[] e1) := ⟨_, get?_update_seq ho fun _ => #[]⟩
  have F1 := ksk_fr F s1 haL ha0
  have N1 := ksk_news N s1 hna
  have hkS : ((s.heap.update a (Obj.mapSeq fun _ => (#[] : Array Value))).push (seqObj "tuple" vs.toArray 0)).objs.size = s.heap.objs.size + 1 := by rw [size_push', Heap.size_update]
  have hLk : L < ((s.heap.update a (Obj.mapSeq fun _ => (#[] : Array Value))).push (seqObj "tuple" vs.toArray 0)).objs.size := (F1.push _).ns.lt
  unfold ksk_tree
  refine wpAny_bind (listItems_at ho rfl ?_)
  refine wpAny_bind (listUpdate_at ho rfl ?_ (by rw [List.size_toArray, sizeLine_eq]; omega) (Nat.zero_le _))
  refine wpAny_bind (seqEpoch_at ho1 rfl ?_)
  refine wpAny_bind (wpAny_newTuple ?_ (by show vs.length ≤ _; rw [sizeLine_eq]; omega))
  refine wpAny_bind (wpAny_newList ?_ (Nat.zero_le _))
  refine wpAny_holding ?_
  refine kt_rest (s := { s with heap := ((s.heap.update a (Obj.mapSeq fun _ => (#[] : Array Value))).push (seqObj "tuple" vs.toArray 0)).push (seqObj "list" #[] 0) }) (kS := ((s.heap.update a (Obj.mapSeq fun _ => (#[] : Array Value))).push (seqObj "tuple" vs.toArray 0)).objs.size)
    ((F1.push _).push _) (fun p hp => ?_) (by rw [hkS]; exact Nat.ne_of_gt (Nat.lt_succ_of_lt ha)) (fun p hp => by rw [hkS]; exact Nat.ne_of_lt (Nat.lt_succ_of_lt (Heap.lt_size (N p hp).1))) hna hZ hu hls turn h
  rcases List.mem_append.mp hp with hp | hp
  · exact ⟨Heap.get?_push_of_some _ (Heap.get?_push_of_some _ (N1 p hp).1), (N1 p hp).2⟩
  · rcases List.mem_cons.mp hp with rfl | hp
    · exact ⟨Heap.get?_push_size _ rfl, Nat.ne_of_gt hLk, Heap.get?_none_of_le (Nat.le_trans F.above (Nat.le_of_lt hLk))⟩
    · rw [List.mem_singleton.mp hp]
      exact ⟨Heap.get?_push_of_some _ (Heap.get?_push_of_some _ ho1), haL, ha0⟩
end
/-! ### sorted(e, key=lambda y: (len(y), y)) -/
section
variable {prog : Program} {w : World} {A : Around} {E : Value → Shared → Prop} {s : Shared} {g0 : Heap} {L : Addr} {m : Str → Option Value} {news : List (Addr × Obj)} {vs : List Value} {cf : Value → List Nat}
theorem kt_list {R : PySem.Fin → Shared → Prop} {g : Addr} (F : Fr g0 L s.heap m) (N : News g0 L s.heap news) (hz : vs.length ≤ sizeLine) (hu : A.units + 40 < cLine)
    (hls : ∀ h, Fr g0 L h m → News g0 L h news → ∀ v ∈ vs, ∃ l us, v = Value.ref l ∧ h.IsList l us.toArray ∧ Vals (natV (cf (.ref l))) us)
    (turn : ∀ (i : Nat) (v : Value), vs[i]? = some v → ∀ (h : Heap) (tk : Nat) (own : List (Addr × Obj)), Fr g0 L h m → News g0 L h (news ++ own) →
      wpAny (model prog w) A.in1 (call (.ref g) [v]) (fun r s'' => ∃ h' tk' t l tok, s'' = { s with heap := h', toks := tk' } ∧ r = .ref t ∧ v = .ref l ∧ Fr g0 L h' m ∧ News g0 L h' ((t, seqObj "tuple" #[.int (((cf (.ref l)).length : Nat) : Int) tok, .ref l] 0) :: (news ++ own))) (fun _ _ => False) { s with heap := h, toks := tk })
    (done : ∀ h' tk out c, Fr g0 L h' m → News g0 L h' ((s.heap.objs.size, seqObj "list" out c) :: news) → out.toList.Perm vs → SrtO.Srtd (fun x y => ltK (cf x) (cf y)) out.toList → R (.done (.ret (.ref s.heap.objs.size))) { s with heap := h', toks := tk }) :
    wpAny (model prog w) A (newList vs >>= fun l => holding [l] (call (.builtin "list.sort") [l] [(Str.ofString "key", .ref g)]) >>= fun _ => ret l) R E s := by
  have hL : L < s.heap.objs.size := F.ns.lt
  have at0 : (s.heap.push (seqObj "list" vs.toArray 0)).get? s.heap.objs.size = some (seqObj "list" vs.toArray 0) := Heap.get?_push_size _ rfl
  have kp : ∀ b o, s.heap.get? b = some o → (s.heap.push (seqObj "list" vs.toArray 0)).get? b = some o := fun b o e => Heap.get?_push_of_some _ e
  refine wpAny_bind (wpAny_newList ?_ hz)
  show wpAny _ _ _ _ _ { s with heap := s.heap.push (seqObj "list" vs.toArray 0) }
  refine wpAny_bind (wpAny_holding (wpAny_call_entry_kw slot_list_sort ⟨_, at0, rfl⟩ entry_list_sort ?body (ksk_l1 _ _)))
  case body =>
    have et := ksk_t1 g s.heap.objs.size
    show wpAny (model prog w) A.in1 (Builtin.«list.sort» ⟨[.ref s.heap.objs.size], [(Str.ofString "key", .ref g)]⟩) _ _ _
    rw [et]
    refine kt_sort (h₀ := g0) (L := L) (m := m) (news := news) (vs := vs) (cf := cf) (s := { s with heap := s.heap.push (seqObj "list" vs.toArray 0) })
      (F.kept kp) (N.grown kp) at0 (Nat.ne_of_gt hL) (Heap.get?_none_of_le (Nat.le_trans F.above (Nat.le_of_lt hL))) (fun p hp => Nat.ne_of_lt (Heap.lt_size (N p hp).1)) hz (by show A.units + 1 + 32 < cLine; omega) hls turn
      fun h' tk out c F' N' k1 k2 => ⟨_, rfl, wpAny_pure (done h' tk out c F' N' k1 k2)⟩
end
/-- the lambda's body, run -/
theorem klen_run {X : Cx} {pins : List (Addr × Obj)} {σ : L2.St} {H : Hp} {s : Shared} {par : Str} {scope : Scope} {p1 p2 p3 p4 p5 : Pos} {k5 : Nat} (I : Inv X pins σ H s) (lp : LamP X.env.scope scope par) (hml : X.mg "len" = none)
    (hgl : ∀ (L' f c' : Addr) (cl : List (Str × Addr)), (PySem.W.envX (X.env.qual ++ "<lambda>") scope L' f (.ref c') cl).kindOf "len" = some .globalImplicit) {A : Around} {L' f c' : Addr} {h1 : Heap} {tk : Nat} {l : Addr} {its : List Value}
    (kb : ∀ b o, X.base.get? b = some o → h1.get? b = some o) (hns : h1.Ns L' (fun y => ([(par, Value.ref l)] : List (Str × Value)).reverse.lookup y)) (hl : h1.IsList l its.toArray) (hz : its.length ≤ 1000) (n2 : (par == ("__debug__" : Str)) = false) :
    wpAny (model X.prog X.w) A (eval (.Tuple [.Call (.Name "len" p1) [.Name par p2] [] p3, .Name par p4] k5 p5) (PySem.W.envX (X.env.qual ++ "<lambda>") scope L' f (.ref c') (cloFrom X.env.cells scope.names [])))
      (fun v s' => ∃ tok tk', v = .ref h1.objs.size ∧ s' = { s with heap := h1.push (seqObj "tuple" #[.int ((its.length : Nat) : Int) tok, .ref l] 0), toks := tk' }) (fun _ _ => False) { s with heap := h1, toks := tk } := by
  obtain ⟨mb, b1, b2⟩ := I.mod.blt
  have lk : ∀ (p : Pos) (tk : Nat) (Q : Value → Shared → Prop), Q (.ref l) { s with heap := h1, toks := tk } → wpAny (model X.prog X.w) A (eval (.Name par p) (PySem.W.envX (X.env.qual ++ "<lambda>") scope L' f (.ref c') (cloFrom X.env.cells scope.names []))) Q (fun _ _ => False) { s with heap := h1, toks := tk } := fun p tk Q hQ => by
    refine wpAny_Name (wpAny_loadName_local (v := Value.ref l) lp.kind lp.par hns ?_ hQ) n2
    show ([(par, Value.ref l)] : List (Str × Value)).reverse.lookup par = some (Value.ref l)
    simp [List.lookup]
  refine wpAny_Tuple_spliced (wpAny_items_cons ?_)
  refine wpAny_Call_Name_kw (Calls.Name_function_global lp.kind (hgl _ _ _ _) (Calls.loadGlobal_builtin (I.mod.glob.keeps kb) hml (b1.keeps kb) ((b2 "len" (by decide)).trans (show bootBuiltins "len" = some (.builtin "len") by decide +kernel)) ?_) (by decide))
  refine PyProof.Rows.callWith_builtin1 (wpAny_items_cons (lk _ _ _ (wpAny_items_nil ?_))) (by rfl) (by rfl)
  have h63 : ((its.toArray.size : Nat) : Int) < 2 ^ 63 := by rw [List.size_toArray]; omega
  refine Calls.call_len_list hl h63 ?_
  refine wpAny_items_cons (lk _ _ _ (wpAny_items_nil ⟨by show 2 ≤ sizeLine; decide, ?_⟩))
  exact ⟨_, _, rfl, by rw [List.size_toArray]⟩
/-- a list of numbers, read -/
def decN (xs : List V) : List Nat := xs.map fun v => match v with | .int i => i.toNat | _ => 0
theorem decN_nat (c : List Nat) : decN (natV c) = c := by
  unfold decN natV
  rw [List.map_map]
  conv => rhs; rw [← List.map_id c]
  exact List.map_congr_left fun n _ => by show (((n : Nat) : Int)).toNat = n; omega
def cfH (H : Hp) (t : Addr) : List Nat := match H t with | some (.lst xs) => decN xs | _ => []
theorem cfH_of {H : Hp} {t : Addr} {c : List Nat} (h : H t = some (.lst (natV c))) : cfH H t = c := by
  unfold cfH
  rw [h]
  exact decN_nat c
def sortKWant (K : PySem.W.Frag) (T : List (Addr × Str)) (Q : VK) : V → Hp → Prop := fun x H1 => ∃ (p : Addr) (ts : List Addr), x = .ref p ∧ SqL K H1 p (ts.map V.ref) ∧ Tabs T H1 ∧ (∀ t ∈ ts, ∃ c, H1 t = some (.lst (natV c)) ∧ c.length ≤ 1000) ∧
  ∀ (H2 : Hp) (D : Addr) (us : List Addr), ExtN H1 H2 → Tabs T H2 → H2 D = none → us.Perm ts → us.Pairwise (fun x y => ltK (cfH H2 y) (cfH H2 x) = false) → Q (.ref D) (upd H2 D (.lst (us.map V.ref)))
def tSortKT (K : PySem.W.Frag) (T : List (Addr × Str)) (te : TE) : TE := fun σ H Q => te σ H (sortKWant K T Q)
theorem vals_refs : ∀ {ts : List Addr} {us : List Value}, Vals (ts.map V.ref) us → us = ts.map Value.ref
  | [], us, r => by cases r; rfl
  | t :: ts, us, r => by
    cases r with
    | cons a b => rw [vals_refs b, (show _ = Value.ref t from a)]; rfl
theorem refs_of_perm {ts : List Addr} {out : List Value} (h : out.Perm (ts.map Value.ref)) : ∃ us : List Addr, out = us.map Value.ref ∧ us.Perm ts := by
  have key : ∀ l : List Value, (∀ v ∈ l, ∃ t, v = Value.ref t) → ∃ us : List Addr, l = us.map Value.ref := by
    intro l
    induction l with
    | nil => intro _; exact ⟨[], rfl⟩
    | cons v r ih =>
      intro hv
      obtain ⟨us, rfl⟩ := ih fun x hx => hv x (List.mem_cons_of_mem _ hx)
      obtain ⟨t, rfl⟩ := hv v List.mem_cons_self
      exact ⟨t :: us, rfl⟩
  obtain ⟨us, rfl⟩ := key out fun v hv => by
    obtain ⟨t, _, rfl⟩ := List.mem_map.mp (h.mem_iff.mp hv)
    exact ⟨t, rfl⟩
  refine ⟨us, rfl, ?_⟩
  have hh := h.map fun v => match v with | Value.ref a => a | _ => (0 : Addr)
  rw [List.map_map, List.map_map] at hh
  simpa [Function.comp_def] using hh
theorem pe_sortKT {X : Cx} {T : List (Addr × Str)} {c P : Addr} {te : TE} {e : Expr} {params : Arguments} {scope : Scope} {par : Str} {p1 p2 p3 p4 p5 q1 pos lpos kpos : Pos} {k5 : Nat} (hr : Room 2 X.A) (TB : TabB X.base X.mg c P) (hcode : X.env.code = .ref c)
    (hm : (P, X.env.qual ++ "<lambda>") ∈ T) (hu : ∀ p ∈ T, p.1 = P → p.2 = X.env.qual ++ "<lambda>") (hg : Gl X "sorted") (hms : X.mg "sorted" = none) (hml : X.mg "len" = none) (lp : LamP X.env.scope scope par) (he : PE X e te)
    (hgl : ∀ (L' f c' : Addr) (cl : List (Str × Addr)), (PySem.W.envX (X.env.qual ++ "<lambda>") scope L' f (.ref c') cl).kindOf "len" = some .globalImplicit := by intros; rfl) (n2 : (par == ("__debug__" : Str)) = false := by decide)
    (hdef : defaultsOf params X.env = ([], []) := by rfl)
    (hb : ∀ (cl : List (Str × Addr)) (pm cdv ct v : Value), bindArgs (PySem.W.kla_fn "<lambda>" (X.env.qual ++ "<lambda>") params (.Tuple [.Call (.Name "len" p1) [.Name par p2] [] p3, .Name par p4] k5 p5) scope cl pm cdv ct) ⟨[v], []⟩ = pure [(par, v)] := by intros; rfl)
    (h0 : starEach [e] X.env = (false, eval e X.env) :: starEach [] X.env := by rfl)
    (h1 : backTo pos (starEach [e] X.env) = (false, eval e X.env) :: backTo pos (starEach [] X.env) := by rfl) (h2 : (backTo pos (starEach [e] X.env)).any (·.1) = false := by rfl)
    (h3 : (backToKw pos (keywordEach [⟨some "key", .Lambda params (.Tuple [.Call (.Name "len" p1) [.Name par p2] [] p3, .Name par p4] k5 p5) scope lpos, kpos⟩] X.env)).all (·.1.isSome) = true := by rfl) (h4 : (backToKw pos (keywordEach [⟨some "key", .Lambda params (.Tuple [.Call (.Name "len" p1) [.Name par p2] [] p3, .Name par p4] k5 p5) scope lpos, kpos⟩] X.env)).any (·.1.isNone) = false := by rfl)
    (h5 : (backToKw pos (keywordEach [⟨some "key", .Lambda params (.Tuple [.Call (.Name "len" p1) [.Name par p2] [] p3, .Name par p4] k5 p5) scope lpos, kpos⟩] X.env)).filterMap (·.1) = [Str.ofString "key"] := by rfl) :
    PE X (.Call (.Name "sorted" q1) [e] [⟨some "key", .Lambda params (.Tuple [.Call (.Name "len" p1) [.Name par p2] [] p3, .Name par p4] k5 p5) scope lpos, kpos⟩] pos) (tSortKT X.K T te) := by
  have hpa : PA X [e] (tCons te tNil) := pa_cons he pa_nil h0
  refine ⟨fun pins s σ H Q I h => ?_⟩
  refine wpAny_Call_Name_kw (ld_blt I hg hms (by decide +kernel : bootBuiltins "sorted" = some (.builtin "sorted")) ?_)
  refine PyProof.Rows.callWith_kw (thn (hpa.run pos pins s σ H (one1 (sortKWant X.K T Q)) I h) fun us s1 hs1 => ?_) h1 h2 h3 h4
  obtain ⟨vs, H1, I1, rv, hq⟩ := hs1
  obtain ⟨x, rfl, hq⟩ := one1_of hq
  obtain ⟨p, ts, rfl, hsq, hT, hR, q⟩ := hq
  obtain ⟨u1, rfl, ru⟩ := vals1 rv
  cases (show u1 = Value.ref p from ru)
  rw [h5]
  show wpAny _ _ (evalAll ((do let v ← eval (.Lambda params (.Tuple [.Call (.Name "len" p1) [.Name par p2] [] p3, .Name par p4] k5 p5) scope lpos) X.env; standAt pos; pure v) :: [])) _ _ s1
  refine wpAny_evalAll_cons (wpAny_bind (lam_make2 I1 TB hcode hm hu hT hdef (lp.has I1.ok) fun f c' pm ctv H2 s2 I2 eN T2 hf hfn hfs hc => wpAny_bind (wpAny_standAt (wpAny_pure (wpAny_pure ?_)))))
  show wpAny _ _ (call (.builtin "sorted") [.ref p] [(Str.ofString "key", .ref f)]) _ _ s2
  have hsq2 : SqL X.K H2 p (ts.map V.ref) := by
    rcases hsq with (z | ⟨o, z⟩) | z
    · exact .inl (.inl (eN _ _ z (fun _ y => nomatch y)))
    · exact .inl (.inr ⟨o, eN _ _ z (fun _ y => nomatch y)⟩)
    · exact .inr z
  obtain ⟨its, Ty, o, n, rI, hTy, ho, hcl, hd, hz⟩ := seq_at I2 (.inl hsq2)
  obtain rfl := vals_refs rI
  rw [List.length_map] at hz
  refine PyProof.Rows.call_function_entry_kw kind_sorted plain_sorted entry_sorted (ksk_s1 _ _) ?_
  show wpAny _ _ (checkCount "sorted" 1 1 1 >>= fun _ => collect (.ref p) >>= fun vs => newList vs >>= fun l => holding [l] (call (.builtin "list.sort") [l] [(Str.ofString "key", .ref f)]) >>= fun _ => ret l) _ _ _
  refine wpAny_bind (m := checkCount "sorted" 1 1 1) (wpAny_pure (wpAny_bind (wpAny_collect_seq p hTy ho hcl hd (fun h' kp => ?_) (by rw [List.size_toArray, List.length_map]; omega))))
  have e1 : (ts.map Value.ref).toArray.toList = ts.map Value.ref := by simp
  rw [e1]
  have I3 : Inv X pins σ H2 { s2 with heap := h', toks := s2.toks } := I2.kept kp
  obtain ⟨m, F⟩ := I3.fr
  have N := news_all (g := X.base) (h := h') (L := X.env.locals)
  have keepAll : ∀ {hh : Heap} {mm : Str → Option Value} {own : List (Addr × Obj)}, Fr X.base X.env.locals hh mm → News X.base X.env.locals hh (allNews X.base h' X.env.locals ++ own) → ∀ b ob, h'.get? b = some ob → b ≠ X.env.locals → hh.get? b = some ob := by
    intro hh mm own F' N' b ob eb nb
    cases q : X.base.get? b with
    | some ob' =>
      have := I3.bk b ob' q
      rw [eb] at this
      cases this
      exact F'.keep b _ q
    | none => exact (N' (b, ob) (List.mem_append_left _ (mem_allNews nb q eb))).1
  have keep0 : ∀ {hh : Heap} {mm : Str → Option Value}, Fr X.base X.env.locals hh mm → News X.base X.env.locals hh (allNews X.base h' X.env.locals) → ∀ b ob, h'.get? b = some ob → b ≠ X.env.locals → hh.get? b = some ob := fun F' N' => keepAll (own := []) F' (by rw [List.append_nil]; exact N')
  have lists : ∀ {hh : Heap}, (∀ b ob, h'.get? b = some ob → b ≠ X.env.locals → hh.get? b = some ob) → ∀ t ∈ ts, ∃ us, hh.IsList t (List.toArray us) ∧ Vals (natV (cfH H2 t)) us ∧ us.length ≤ 1000 := fun {hh} kk t ht => by
    obtain ⟨cc, hcc, hlen⟩ := hR t ht
    have hcc2 := eN _ _ hcc (fun _ y => nomatch y)
    obtain ⟨_, lv, nl, rl, hoL⟩ := (show ObjOk X.prog X.w H2 h' t (.lst (natV cc)) from I3.hok t _ hcc2)
    rw [cfH_of hcc2]
    refine ⟨lv, ⟨_, kk _ _ hoL (ne_of_none hcc2 I3.free), rfl, nl, rfl⟩, rl, ?_⟩
    have := rl.length
    rw [natV_len] at this
    omega
  have hun := hr.units
  refine kt_list (cf := fun v => match v with | .ref t => cfH H2 t | _ => []) F N (by rw [List.length_map]; exact hz) (by show X.A.units + 1 + 40 < cLine; omega) (fun hh F' N' v hv => ?_) (fun i v hv hh tk own F' N' => ?_) fun hh tk out cc F' N' pm2 srt => ?_
  · obtain ⟨t, ht, rfl⟩ := List.mem_map.mp hv
    obtain ⟨us, y1, y2, _⟩ := lists (keep0 F' N') t ht
    exact ⟨t, us, rfl, y1, y2⟩
  · obtain ⟨t, ht, rfl⟩ : ∃ t, ts[i]? = some t ∧ v = Value.ref t := by
      rw [List.getElem?_map] at hv
      obtain ⟨t, z1, z2⟩ := Option.map_eq_some_iff.mp hv
      exact ⟨t, z1, z2.symm⟩
    obtain ⟨us, y1, y2, y3⟩ := lists (keepAll F' N') t (List.mem_of_getElem? ht)
    have nfL : f ≠ X.env.locals := fun z => by
      obtain ⟨mL, ⟨oL, _, _, eL, dL, _⟩, _⟩ := I2.loc
      rw [← z, hf] at eL
      cases eL
      cases dL
    have hff := keepAll F' N' f _ (kp _ _ hf) nfL
    obtain ⟨⟨oc, cv, ct, d1, d2, d3⟩, _, _⟩ := I2.hok c' _ hc
    have hcc := keepAll F' N' c' _ (kp _ _ d1) (ne_of_none hc I2.free)
    refine wpAny_call (PySem.W.kla_callFunE hr.in1.in1.depth hff rfl lp.co lp.gen rfl ⟨c', oc, cv, ct, rfl, hcc, d2, d3⟩ ?_)
    rw [hb]
    refine wpAny_pure (wpAny_newFunctionEnv lp.cell (fun y hy => ?_) (fun h₁ hns hsb => ⟨(I2.ok.mod.nolimit.keeps F'.keep).fresh _ hsb, ?_⟩) lp.kind)
    · rw [List.mem_singleton.mp hy]
      exact lp.par
    · have kp1 : ∀ b ob, hh.get? b = some ob → h₁.get? b = some ob := fun b ob e => hsb.extBut b ob (Nat.ne_of_lt (Heap.lt_size e)) (Heap.get?_push_of_some _ e)
      show codeAny _ _ (.expr (.Tuple [.Call (.Name "len" p1) [.Name par p2] [] p3, .Name par p4] k5 p5) (PySem.W.envX (X.env.qual ++ "<lambda>") scope hh.objs.size f (.ref c') (cloFrom X.env.cells scope.names []))) _ _
      obtain ⟨o1, g1, k1, n1, x1⟩ := id y1
      refine PySem.W.kla_codeExpr (wpAny_mono (klen_run (tk := tk + 1) I3 lp hml hgl (fun b o e => kp1 b o (F'.keep b o e)) hns ⟨o1, kp1 _ _ g1, k1, n1, x1⟩ y3 n2) (fun v s' hq => ?_) fun _ _ z => z.elim)
      obtain ⟨tok, tk', rfl, rfl⟩ := hq
      have hll : us.length = (cfH H2 t).length := by
        have := y2.length
        rw [natV_len] at this
        omega
      have hL1 : X.env.locals < h₁.objs.size := (F'.ns.keeps kp1).lt
      refine ⟨h₁.push (seqObj "tuple" #[.int ((us.length : Nat) : Int) tok, .ref t] 0), tk', h₁.objs.size, t, tok, rfl, rfl, rfl, ⟨(F'.ns.keeps kp1).keeps fun b o e => Heap.get?_push_of_some _ e, fun b ob e => Heap.get?_push_of_some _ (kp1 b ob (F'.keep b ob e)), F'.above⟩, fun z hz => ?_⟩
      rcases List.mem_cons.mp hz with rfl | hz
      · refine ⟨?_, Nat.ne_of_gt hL1, Heap.get?_none_of_le (Nat.le_trans F'.above (Nat.le_of_lt hL1))⟩
        show (h₁.push (seqObj "tuple" #[.int ((us.length : Nat) : Int) tok, .ref t] 0)).get? h₁.objs.size = some (seqObj "tuple" #[.int (((cfH H2 t).length : Nat) : Int) tok, .ref t] 0)
        rw [← hll]
        exact Heap.get?_push_size _ rfl
      · exact ⟨Heap.get?_push_of_some _ (kp1 _ _ (N' z hz).1), (N' z hz).2⟩
  · obtain ⟨us, eus, pus⟩ := refs_of_perm pm2
    have at1 := (N' _ List.mem_cons_self).1
    have lo : us.length = ts.length := pus.length_eq
    have rus : Vals (us.map V.ref) out.toList := by
      rw [eus]
      have key : ∀ l : List Addr, Vals (l.map V.ref) (l.map Value.ref) := fun l => by
        induction l with
        | nil => exact .nil
        | cons a r ih => exact .cons rfl ih
      exact key us
    have I4 := inv_laidL (D := h'.objs.size) (tk := tk) (o := .lst (us.map V.ref)) I3 F.ns F'.ns (fun b ob e nb => keep0 F' (fun z hz => N' z (List.mem_cons_of_mem _ hz)) b ob e nb) (Nat.le_refl _)
      ⟨by rw [List.length_map, lo]; exact hz, out.toList, cc, rus, by rw [Array.toArray_toList]; exact at1⟩
    refine ⟨_, rfl, .ref h'.objs.size, _, I4, rfl, ?_⟩
    refine q H2 h'.objs.size us eN T2 (I3.hok.fresh (Nat.le_refl _)) pus ?_
    rw [eus] at srt
    exact List.pairwise_map.mp srt
end OwnR

set_option Elab.async false
set_option linter.all false
set_option maxRecDepth 100000
set_option maxHeartbeats 2000000
namespace Sl
open PySem PySem.Spec L2 OwnR LamX
/-- all harmful widenings -/
def harmP (secs : List Sec) (cars : List Car) (k : Nat) (c : Car) : Bool := decide (arrT secs cars c.name < arrT (widen secs [k]) cars c.name)
def harmAt (secs : List Sec) (cars : List Car) (k i : Nat) : List (Nat × Str) := ((cars.take i).filter (harmP secs cars k)).map fun c => (k, c.name)
def harmL (secs : List Sec) (cars : List Car) (n : Nat) : List (Nat × Str) := (List.range n).flatMap fun k => harmAt secs cars k cars.length
def harmV (q : Nat × Str) : List V := [.int (q.1 : Nat), .str q.2]
theorem harmAt_len (secs : List Sec) (cars : List Car) (k i : Nat) : (harmAt secs cars k i).length ≤ cars.length := by
  unfold harmAt
  rw [List.length_map]
  refine Nat.le_trans (List.length_filter_le _ _) ?_
  rw [List.length_take]
  exact Nat.min_le_right _ _
theorem harmL_succ (secs : List Sec) (cars : List Car) (n : Nat) : harmL secs cars (n + 1) = harmL secs cars n ++ harmAt secs cars n cars.length := by
  unfold harmL
  rw [List.range_succ, List.flatMap_append]
  simp
theorem harmL_len (secs : List Sec) (cars : List Car) : ∀ n, (harmL secs cars n).length ≤ n * cars.length
  | 0 => Nat.zero_le _
  | n + 1 => by
    rw [harmL_succ, List.length_append, Nat.add_mul]
    have h1 := harmL_len secs cars n
    have h2 := harmAt_len secs cars n cars.length
    omega
theorem tups_ext2 {H H1 : Hp} {a b : Addr} {v1 v2 : List (List V)} (h1 : TupsAt H a v1) (h2 : TupsAt H b v2) : ∃ xs ys, H a = some (.lst xs) ∧ H b = some (.lst ys) ∧ xs.length = v1.length ∧ ys.length = v2.length ∧ TupsAt (upd H a (.lst (xs ++ ys))) a (v1 ++ v2) := by
  obtain ⟨t1, a1, a2, a3⟩ := h1
  obtain ⟨t2, b1, b2, b3⟩ := h2
  refine ⟨t1.map V.ref, t2.map V.ref, a1, b1, by rw [List.length_map, a2], by rw [List.length_map, b2], t1 ++ t2, by rw [upd_same, List.map_append], by rw [List.length_append, List.length_append, a2, b2], fun i t v e1 e2 => ?_⟩
  have key : H t = some (.tup v) := by
    by_cases hi : i < t1.length
    · rw [List.getElem?_append_left hi] at e1
      rw [List.getElem?_append_left (by omega)] at e2
      exact a3 i t v e1 e2
    · rw [List.getElem?_append_right (by omega)] at e1
      rw [List.getElem?_append_right (by omega), ← a2] at e2
      exact b3 _ t v e1 e2
  rw [upd_ne (ne_of key a1 (by intro z; cases z))]
  exact key
section
variable {P : Program} {w : World} {K : PySem.W.Frag} {mg : Str → Option Value} {base : Heap}
theorem ip_ext {X : Cx} : PIp X .Add rExt2 := fun pins s σ H x y v u Q I rx ry h => iop_ext pins s σ H x y v u Q I rx ry h
/-! ### harmful_widenings -/
def spHarm (CR : Addr) (T : List (Addr × Str)) : Sp := fun vs H Q _ => ∃ (p a : Addr) (secs : List Sec) (cars : List Car), vs = [.ref p, .ref a] ∧ RoadAt CR H p secs ∧ CarsAt H a cars ∧ SecsOk secs ∧ CarsOk cars ∧ Tabs T H ∧
  ∀ H' l, ExtN H H' → Tabs T H' → TupsAt H' l ((harmL secs cars secs.length).map harmV) → Q (.ref l) H'
def nHarm : List Str := ["road", "cars", "drive", "harmful", "section", "wider", "name", "start", "pace"]
abbrev spCallR1 (C : Addr) : Sp := fun vs H Q E => spCallD C (vs ++ [V.non]) H Q E
theorem scHarm : FnScope nHarm ["road", "cars"] (defScope sHarmfulWidenings) := ⟨rfl, rfl, rfl, by decide +kernel, rfl, by decide +kernel, by decide +kernel⟩
theorem ok_harm {f CR C pp fP fW lp kp : Addr} {fd dP : FuncData} {T : List (Addr × Str)} (F : Fun K "harmful_widenings" "harmful_widenings" sHarmfulWidenings f fd) (I : Inf63 P w K mg base CR C T) (RR : RoadT K w mg CR lp kp)
    (PO : PropOf K CR "sections" pp fP) (bP : Binds K dP ["self"] []) (GP : FnOk P w K mg base CX0 1 fP dP ["self"] (getSp CR "_sections"))
    (hm : Meth K CR "widened" fW) (GW : FnR P w K mg base CX0 5 fW (spWid CR)) : FnOk P w K mg base CX0 7 f fd ["road", "cars"] (spHarm CR T) := by
  refine F.ok scHarm (fun vs H Q E h => ?_) (fun cdv A outer s H vs Q E hr h => ?_)
  · obtain ⟨p, a, secs, cars, rfl, _⟩ := h
    rfl
  · obtain ⟨p, a, secs, cars, rfl, rd, ct, SO, CO, T0, k⟩ := h
    have nd := scHarm.nd
    have M := I.M
    have R := I.R
    obtain ⟨fI, dI, MI, bI, GI⟩ := I.init
    obtain ⟨fQ, dQ, ds, CO2, bC1, vC, GQ⟩ := I.call
    have hr2 : Room 2 (A.deeper (PyProof.Rows.envOfC "harmful_widenings" (defScope sHarmfulWidenings) s.heap.objs.size f cdv)) := hr.mono (by decide)
    have hr3 : Room 3 (A.deeper (PyProof.Rows.envOfC "harmful_widenings" (defScope sHarmfulWidenings) s.heap.objs.size f cdv)) := hr.mono (by decide)
    have hr5 : Room 5 (A.deeper (PyProof.Rows.envOfC "harmful_widenings" (defScope sHarmfulWidenings) s.heap.objs.size f cdv)) := hr.mono (by decide)
    refine ⟨_, pss_cons (ps_set (i := 2) nd rfl (.inr rfl) (pe_make MI GI hr (by rfl) R.mgC bI .nil pass0 (pa_cons (pv 0) (pa_cons (pv 1) pa_nil))))
      (pss_cons (ps_set (i := 3) nd rfl (.inl rfl) (pe_lst pa_nil))
      (pss_cons (ps_for PassesOwn.never rfl (pi_range1 (by rfl) M.range (pa_cons (pe_callB call_len_seq (by rfl) M.len boot_len (pa_cons (pe_prop (pv 0) RR.cl PO GP hr2 bP .nil pass0 rfl) pa_nil)) pa_nil)) (pg_name (i := 4) nd rfl (.inr rfl))
        (pss_cons (ps_set (i := 5) nd rfl (.inr rfl) (pe_make MI GI hr (by rfl) R.mgC bI .nil pass0 (pa_cons (pe_methR (pv 0) RR.cl hm GW hr5 pass0 (pa_cons (pv 4) pa_nil)) (pa_cons (pv 1) pa_nil))))
        (pss_one (ps_aug (i := 3) nd rfl (.inl rfl) (pe_lc (own := [("name", 6), ("start", 7), ("pace", 8)]) (g := gTup K 3 (gCons (gName 6) (gCons (gName 7) (gCons (gName 8) gNil)))) (tt := tTest (tOp (rI0 fun i j => .bl (decide (j < i))) (tCallH C (spCallR1 C) E0 (tVar 5) (tCons (tVar 6) tNil)) (tCallH C (spCallR1 C) E0 (tVar 2) (tCons (tVar 6) tNil)))) (te := tTup (tCons (tVar 4) (tCons (tVar 6) tNil))) (by rfl) nd (pi_tup (pv 1)) (blkOk_by (N := nHarm) (sc := defScope sHarmfulWidenings) (by decide +kernel))
            (fun _ _ _ _ _ => pg_tup rfl (pgs_cons (pg_name (i := 6) nd rfl (Or.inl rfl)) (pgs_cons (pg_name (i := 7) nd rfl (Or.inl rfl)) (pgs_cons (pg_name (i := 8) nd rfl (Or.inl rfl)) pgs_nil))))
            (fun _ _ _ _ _ => pts_one (pt_cmpR op_gt (pe_callH (pv 5) CO2 (GQ.raw bC1 vC) hr3 pass0 (pa_cons (pv 6) pa_nil)) (pe_callH (pv 2) CO2 (GQ.raw bC1 vC) hr3 pass0 (pa_cons (pv 6) pa_nil)) (nomark _))) (fun _ _ _ _ _ => pe_tup (pa_cons (pv 4) (pa_cons (pv 6) pa_nil)))) ip_ext))))
      (pss_one (ps_ret (pv 3))))), ?_⟩
    have few := CO.few
    have h12 := SO.few
    refine ⟨_, rfl, _, rfl, fun dv dx hdv hdx ndx => mk_drive rd ct SO CO T0 hdv hdx fun H3 e3 T3 da3 => ⟨rfl, ?_⟩⟩
    refine ⟨Nat.zero_le _, fun L hL => ?_⟩
    have s4 := sameNew hL (.lst [])
    obtain ⟨rdx, rts, ru, r1, r2, r3⟩ := id (rd.ext2 e3)
    obtain ⟨us, r4, r5, r6⟩ := id r2
    have hus : (us.map V.ref).length = secs.length := by rw [List.length_map, r5]
    obtain ⟨ts, c1, c2, c3⟩ := id (ct.ext e3)
    have hl : (ts.map V.ref).length = cars.length := by rw [List.length_map, c2]
    refine ⟨_, rfl, p, rdx, _, rfl, s4 _ _ r1, p, rdx, _, _, rfl, s4 _ _ r1, rf_sections _ _, rts, _, rfl, .inr (SqT.of (s4 _ _ r4)), _, rfl, by rw [hus]; omega, by rw [hus]; omega, ?_⟩
    rw [hus, Int.toNat_natCast]
    refine for_it walk_range (fun i σ H5 => ∃ v4 v5, σ = [some (.ref p), some (.ref a), some (.ref dv), some (.ref L), v4, v5, none, none, none] ∧ ExtN H3 H5 ∧ Tabs T H5 ∧ TupsAt H5 L ((harmL secs cars i).map harmV))
      ⟨none, none, rfl, ExtN.same s4, T3.ext s4, tups_nil upd_same⟩ (fun _ _ _ _ _ => True.intro) ?_ ?_
    · rintro i x σ H6 H5 hi ⟨v4, v5, rfl, e5, T5, U5⟩ ⟨e, ex⟩
      have ex : x = V.int ((i : Nat) : Int) := by
        rw [ex]
        show V.int (0 + ((i : Nat) : Int)) = _
        rw [Int.zero_add]
      subst e ex
      have rd5 := (rd.ext2 e3).ext2 e5
      have ct5 := (ct.ext e3).ext e5
      have r15 := ExtN.ins e5 r1
      refine ⟨_, rfl, p, rdx, _, rfl, r15, rf_no _ _ (by decide +kernel) (by decide +kernel), _, rfl, [.ref p], [.int ((i : Nat) : Int)], rfl, rfl, by show 1 ≤ sizeLine; decide, fun t ht => ?_⟩
      have st := sameNew ht (.tup [V.int ((i : Nat) : Int)])
      refine ⟨p, t, secs, [i], rfl, upd_same, rd5.ext2 (ExtN.same st), SO, by show 1 ≤ 1000; decide, fun j hj => by rw [List.mem_singleton.mp hj]; exact hi, fun H7 q s7 rd7 => ?_⟩
      have s57 := st.trans s7
      refine ⟨_, rfl, fun dw dy hdw hdy ndy => mk_drive rd7 (ct5.ext (ExtN.same s57)) (widen_ok SO [i]) CO (T5.ext s57) hdw hdy fun H8 e8 T8 da8 => ⟨rfl, ?_⟩⟩
      have e58 : ExtN H5 H8 := (ExtN.same s57).trans e8
      have U8 := U5.ext e58
      have e38 := e5.trans e58
      have c18 := ExtN.tup e38 c1
      refine ⟨_, rfl, ?_⟩
      refine ⟨_, rfl, a, rfl, ⟨_, SqT.of c18⟩, fun D hD => ?_⟩
      refine lc_it walk_tup (fun j H9 => Same H8 H9 ∧ TupsAt H9 D ((harmAt secs cars i j).map harmV)) ⟨sameNew hD _, tups_nil upd_same⟩ (fun j H9 _ ⟨k9, _⟩ => SqT.of (k9 _ _ c18)) ?_ ?_
      · rintro j y Hz H9 hj ⟨k9, U9⟩ ⟨e, hy⟩
        subst e
        obtain ⟨t', ht', rfl⟩ : ∃ t, ts[j]? = some t ∧ y = V.ref t := by
          rw [List.getElem?_map] at hy
          obtain ⟨t, z1, z2⟩ := Option.map_eq_some_iff.mp hy
          exact ⟨t, z1, z2.symm⟩
        rw [hl] at hj
        obtain ⟨c, hc⟩ : ∃ c, cars[j]? = some c := ⟨_, List.getElem?_eq_getElem hj⟩
        have hcn : c.name ∈ names cars := List.mem_map.mpr ⟨c, List.mem_of_getElem? hc, rfl⟩
        have hct := k9 _ _ (ExtN.tup e38 (c3 j t' c ht' hc))
        refine ⟨t', _, rfl, SqT.of hct, rfl, _, _, rfl, _, _, rfl, _, _, rfl, rfl, rfl, ?_⟩
        have da9 := da8.ext (ExtN.same k9)
        have db9 := da3.ext (e38.trans (ExtN.same k9))
        obtain ⟨_, W9, D9⟩ := id da9
        obtain ⟨_, V9, E9⟩ := id db9
        refine ⟨_, rfl, dw, rfl, _, rfl, .inr ⟨_, _, D9.ins⟩, dw, widen secs [i], cars, c.name, (widen secs [i]).length, .non, rfl, da9, hcn, Nat.le_refl _, .inl ⟨rfl, rfl⟩, ?_⟩
        refine ⟨_, rfl, dv, rfl, _, rfl, .inr ⟨_, _, E9.ins⟩, dv, secs, cars, c.name, secs.length, .non, rfl, db9, hcn, Nat.le_refl _, .inl ⟨rfl, rfl⟩, _, _, rfl, rfl, _, rfl, ?_⟩
        have hs : harmAt secs cars i (j + 1) = harmAt secs cars i j ++ if harmP secs cars i c = true then [(i, c.name)] else [] := by
          unfold harmAt
          rw [tk1 hc, List.filter_append, List.map_append]
          cases hp : harmP secs cars i c <;> simp [hp]
        rw [hs]
        by_cases hp : (plcC secs cars secs.length).tk c.name < (plcC (widen secs [i]) cars (widen secs [i]).length).tk c.name
        · have hp2 : harmP secs cars i c = true := decide_eq_true hp
          rw [decide_eq_true hp, if_pos hp2]
          refine iteT ⟨_, rfl, _, rfl, by show 2 ≤ sizeLine; decide, fun x hx => ?_⟩
          obtain ⟨as, q1, q2, q3⟩ := id U9
          have sx := sameNew hx (.tup [V.int ((i : Nat) : Int), V.str c.name])
          have al := harmAt_len secs cars i j
          refine ⟨_, sx _ _ q1, by rw [List.length_map, q2, List.length_map]; exact small1000 (by omega), fun b o e => by rw [upd_ne (ne_of_none e hD)]; exact sx _ _ (k9 _ _ e), ?_⟩
          rw [List.map_append]
          exact tups_push q1 q2 q3 hx _
        · have hp2 : harmP secs cars i c = false := decide_eq_false hp
          rw [decide_eq_false hp, hp2, if_neg Bool.false_ne_true, List.append_nil]
          exact iteF ⟨k9, U9⟩
      · rintro H9 ⟨k9, U9⟩
        rw [hl] at U9
        have V9 := U8.same k9
        obtain ⟨xs, ys, x1, x2, x3, x4, x5⟩ := tups_ext2 (H1 := H9) V9 U9
        have al := harmAt_len secs cars i cars.length
        have ll := harmL_len secs cars i
        have mul : i * cars.length ≤ 12 * 10 := Nat.mul_le_mul (by omega) few
        refine ⟨L, D, xs, ys, rfl, rfl, x1, x2, by rw [x3, x4, List.length_map, List.length_map]; have := line_big; omega, ?_⟩
        refine ⟨_, _, rfl, fun b o e n => ?_, Tabs.keepL (T8.ext k9) fun b o e n => by rw [upd_ne (ne_of e x1 (n _))]; exact e, ?_⟩
        · have hb : b ≠ L := fun z => by
            rw [z, hL] at e
            cases e
          rw [upd_ne hb]
          exact k9 _ _ (e38 b o e n)
        · rw [harmL_succ, List.map_append]
          exact x5
    · rintro σ H5 ⟨v4, v5, rfl, e5, T5, U5⟩
      exact ⟨_, rfl, k H5 L (e3.trans e5) T5 U5⟩
end
end Sl

set_option Elab.async false
set_option linter.all false
set_option maxRecDepth 100000
set_option maxHeartbeats 2000000
namespace Sl
open PySem PySem.Spec L2 OwnR LamX
section
variable {P : Program} {w : World} {K : PySem.W.Frag} {mg : Str → Option Value} {base : Heap}
/-! ### _law_widened -/
def spLW : Sp := fun vs H Q _ => ∃ (l s : Addr) (secs : List Sec) (c : List Nat), vs = [.ref l, .ref s] ∧ RunsAt H l secs ∧ SecsOk secs ∧ H s = some (.lst (natV c)) ∧ ∀ H' q, Same H H' → RunsAt H' q (widen secs c) → Q (.ref q) H'
def nLW : List Str := ["_law_sections_here", "_law_some", "_law_k"]
theorem scLW : FnScope nLW ["_law_sections_here", "_law_some"] (defScope sWidened) := ⟨rfl, rfl, rfl, by decide +kernel, rfl, by decide +kernel, by decide +kernel⟩
theorem ok_lw {f : Addr} {fd : FuncData} (F : Fun K "_law_widened" "_law_widened" sWidened f fd) (M : Mg mg) : FnOk P w K mg base CX0 1 f fd ["_law_sections_here", "_law_some"] spLW := by
  refine F.ok scLW (fun vs H Q E h => ?_) (fun cdv A outer s H vs Q E hr h => ?_)
  · obtain ⟨l, s, secs, c, rfl, _⟩ := h
    rfl
  · obtain ⟨l, s1, secs, c, rfl, ⟨ts, a1, a2, a3⟩, SO, hs, k⟩ := h
    have nd := scLW.nd
    refine ⟨_, (pss_one (ps_ret (pe_lc (own := [("_law_k", 2)]) (g := gName 2) (tt := tYes) (te := tIf (tTest (tOp (rIn K false) (tVar 2) (tVar 1))) (tTup (tCons (tC (.str "wide")) (tCons (tOp (rIxT K) (tOp (rIxL K) (tVar 0) (tVar 2)) (tC (.int 1))) tNil))) (tOp (rIxL K) (tVar 0) (tVar 2))) (by rfl) nd (pi_range1 (by rfl) M.range (pa_cons (pe_callB call_len_seq (by rfl) M.len boot_len (pa_cons (pv 0) pa_nil)) pa_nil)) (blkOk_by (N := nLW) (sc := defScope sWidened) (by decide +kernel)) (fun _ _ _ _ _ => (pg_name (i := 2) nd rfl (.inl rfl))) (fun _ _ _ _ _ => pts_nil) (fun _ _ _ _ _ => (pe_ifExp (pt_cmpR op_in_seq (pv 2) (pv 1) (by rfl)) (pe_tup (pa_cons pe_str (pa_cons (pe_ix (r := rIxT K) ix_tup (pe_ix (r := rIxL K) ix_list (pv 0) (pv 2) (fun _ _ => rfl)) pe_int (fun _ _ => rfl)) pa_nil))) (pe_ix (r := rIxL K) ix_list (pv 0) (pv 2) (fun _ _ => rfl))))))), ?_⟩
    have h12 := SO.few
    have hts : (ts.map V.ref).length = secs.length := by rw [List.length_map, a2]
    refine ⟨_, rfl, l, _, rfl, .inl (SqL.of a1), _, rfl, by rw [hts]; omega, by rw [hts]; omega, fun D hD => ?_⟩
    rw [hts, Int.toNat_natCast]
    refine lc_it walk_range (fun i H2 => Same H H2 ∧ ∃ us : List Addr, H2 D = some (.lst (us.map V.ref)) ∧ us.length = i ∧ ∀ (q : Nat) (t : Addr) (s : Sec), us[q]? = some t → (widen secs c)[q]? = some s → H2 t = some (.tup (secV s)))
      ⟨sameNew hD _, [], upd_same, rfl, fun q t c e => by simp at e⟩ (fun _ _ _ _ => True.intro) ?_ ?_
    · rintro i y Hz H2 hi ⟨k2, us, u1, u2, u3⟩ ⟨e, ex⟩
      have ex : y = V.int ((i : Nat) : Int) := by
        rw [ex]
        show V.int (0 + ((i : Nat) : Int)) = _
        rw [Int.zero_add]
      subst e ex
      obtain ⟨t, ht⟩ : ∃ t, ts[i]? = some t := ⟨_, List.getElem?_eq_getElem (by omega)⟩
      have hc : secs[i]? = some secs[i] := List.getElem?_eq_getElem hi
      have hct := k2 _ _ (a3 i t _ ht hc)
      have hw := widen_get (ixs := c) hc
      have hg : (ts.map V.ref)[i]? = some (V.ref t) := by rw [List.getElem?_map, ht]; rfl
      have fin : ∀ (H4 : Hp) (x : Addr), Same H2 H4 → H4 x = some (.tup (secV (decide (i ∈ c) || secs[i].1, secs[i].2))) → ∃ acc, H4 D = some (.lst acc) ∧ acc.length < sizeLine ∧ (Same H (upd H4 D (.lst (acc ++ [.ref x]))) ∧ ∃ us : List Addr, upd H4 D (.lst (acc ++ [.ref x])) D = some (.lst (us.map V.ref)) ∧ us.length = i + 1 ∧ ∀ (q : Nat) (t : Addr) (s : Sec), us[q]? = some t → (widen secs c)[q]? = some s → upd H4 D (.lst (acc ++ [.ref x])) t = some (.tup (secV s))) := fun H4 x s4 hx => by
        have u1' := s4 _ _ u1
        refine ⟨_, u1', small1000 (by rw [List.length_map, u2]; omega), fun b o e => by rw [upd_ne (ne_of_none e hD)]; exact s4 _ _ (k2 _ _ e), us ++ [x], by rw [upd_same, List.map_append]; rfl, by rw [List.length_append, u2]; rfl, fun q t s e1 e2 => ?_⟩
        have key : H4 t = some (.tup (secV s)) := by
          rcases snoc_get e1 with e1 | ⟨hq, rfl⟩
          · exact s4 _ _ (u3 q t s e1 e2)
          · rw [u2] at hq
            rw [hq, hw] at e2
            rw [← Option.some.inj e2]
            exact hx
        rw [upd_ne (ne_of key u1' (by intro z; cases z))]
        exact key
      refine ⟨rfl, yes_of ?_⟩
      refine ⟨_, rfl, _, rfl, s1, _, rfl, .inl (SqL.of (k2 _ _ hs)), rfl, flat_nats c, _, rfl, ?_⟩
      show if inV (V.int ((i : Nat) : Int)) (c.map fun n => V.int ((n : Nat) : Int)) = true then _ else _
      rw [in_nats]
      by_cases hm : i ∈ c
      · rw [decide_eq_true hm] at fin ⊢
        refine iteT ⟨_, rfl, _, rfl, l, _, _, _, rfl, rfl, SqL.of (k2 _ _ a1), atI_nat hg, t, _, _, _, rfl, rfl, SqT.of hct, rfl, by show 2 ≤ sizeLine; decide, fun x hx => ?_⟩
        exact fin _ x (sameNew hx _) upd_same
      · rw [decide_eq_false hm] at fin ⊢
        refine iteF ⟨_, rfl, _, rfl, l, _, _, _, rfl, rfl, SqL.of (k2 _ _ a1), atI_nat hg, ?_⟩
        exact fin _ t (Same.refl _) hct
    · rintro H2 ⟨k2, us, u1, u2, u3⟩
      exact k H2 D k2 ⟨us, u1, by rw [u2, widen_len], u3⟩
end
end Sl

set_option Elab.async false
set_option linter.all false
set_option maxRecDepth 100000
set_option maxHeartbeats 2000000
namespace OwnR
open PySem PySem.Spec L2 PyProof.Rows
/-- `xs != []` -/
def rNeNil : R2 := fun x y H Q => ∃ a b xs, x = .ref a ∧ y = .ref b ∧ H a = some (.lst xs) ∧ H b = some (.lst []) ∧ Q (.bl (!xs.isEmpty)) H
theorem op_neNil {X : Cx} (hu : X.A.units + 64 < cLine) : OpR X (compareOp .NotEq) rNeNil := by
  intro pins s σ H x y v u Q I rx ry h
  obtain ⟨a, b, xs, rfl, rfl, ha, hb, q⟩ := h
  cases (show v = Value.ref a from rx)
  cases (show u = Value.ref b from ry)
  obtain ⟨_, i1, n1, r1, h1⟩ := (show ObjOk X.prog X.w H s.heap a (.lst xs) from I.hok a _ ha)
  obtain ⟨_, i2, n2, r2, h2⟩ := (show ObjOk X.prog X.w H s.heap b (.lst []) from I.hok b _ hb)
  have L1 : s.heap.IsList a i1.toArray := ⟨_, h1, rfl, _, rfl⟩
  have L2 : s.heap.IsList b i2.toArray := ⟨_, h2, rfl, _, rfl⟩
  have e2 : i2 = [] := by cases r2; rfl
  subst e2
  have hl : xs.length = i1.length := r1.length
  cases i1 with
  | nil =>
    have e : xs = [] := List.eq_nil_of_length_eq_zero (by simpa using hl)
    subst e
    exact SeqAt.RcNeAt.lists (e := fun _ => true) L1 L2 rfl (by omega) (fun j h1 => by simp at h1) _ _ _ _ ⟨.bl false, H, I, rfl, q⟩
  | cons z r =>
    have e : xs.isEmpty = false := by
      cases xs with
      | nil => simp at hl
      | cons a b => rfl
    rw [e] at q
    exact SeqAt.RcNeAt.lists_lengths L1 L2 (by simp) (by omega) _ _ _ _ ⟨.bl true, H, I, rfl, q⟩
end OwnR
namespace Sl
open PySem PySem.Spec L2 OwnR LamX
section
variable {P : Program} {w : World} {K : PySem.W.Frag} {mg : Str → Option Value} {base : Heap}
/-! ### _law_loser -/
def spLL (T : List (Addr × Str)) : Sp := fun vs H Q _ => ∃ (l a : Addr) (secs : List Sec) (cars : List Car) (m : Int), vs = [.ref l, .ref a, .int m] ∧ RunsAt H l secs ∧ CarsAt H a cars ∧ SecsOk secs ∧ CarsOk cars ∧ Tabs T H ∧ ∀ H', ExtN H H' → Tabs T H' → Q (strO (loser secs cars m)) H'
def nLL : List Str := ["_law_sections_here", "_law_cars_here", "_law_most", "_law_ticks", "_law_length", "_law_late", "_law_one", "_law_name", "_law_start", "_law_pace"]
theorem scLL : FnScope nLL ["_law_sections_here", "_law_cars_here", "_law_most"] (defScope sLoser) := ⟨rfl, rfl, rfl, by decide +kernel, rfl, by decide +kernel, by decide +kernel⟩
theorem ok_ll {f : Addr} {fd : FuncData} {T : List (Addr × Str)} (F : Fun K "_law_loser" "_law_loser" sLoser f fd) (M : Mg mg) (D : ∃ f fd c, FbC K mg "_law_driven" sDriven ["_law_sections_here", "_law_cars_here"] f fd c ∧ FnOk P w K mg base CX0 3 f fd ["_law_sections_here", "_law_cars_here"] (spDriven T)) :
    FnOk P w K mg base CX0 4 f fd ["_law_sections_here", "_law_cars_here", "_law_most"] (spLL T) := by
  refine F.ok scLL (fun vs H Q E h => ?_) (fun cdv A outer s H vs Q E hr h => ?_)
  · obtain ⟨l, a, secs, cars, m, rfl, _⟩ := h
    rfl
  · obtain ⟨l, a, secs, cars, m, rfl, rn, ct, SO, CO, T0, k⟩ := h
    have nd := scLL.nd
    have hu := hu_of hr
    have hu64 := hr.units
    obtain ⟨fV, dV, cV, BV, GV⟩ := D
    have hr3 : Room 3 (A.deeper (PyProof.Rows.envOfC "_law_loser" (defScope sLoser) s.heap.objs.size f cdv)) := hr
    refine ⟨_, (pss_cons (ps_asg (pe_tup (pa_cons (pe_ix ix_tup (pe_call GV hr3 (by rfl) BV.at_ BV.fn.kp BV.bd .nil pass0 (pa_cons (pv 0) (pa_cons (pv 1) pa_nil))) pe_int (fun _ _ => rfl)) (pa_cons (pe_callB (cr_sum rfl) (by rfl) M.sum PyProof.Rows.boot_sum (pa_cons (pe_lc (own := [("_law_one", 6)]) (g := gName 6) (tt := tYes) (te := tOp (rIxT K) (tVar 6) (tC (.int 1))) (by rfl) nd (pi_list (pv 0)) (blkOk_by (N := nLL) (sc := defScope sLoser) (by decide +kernel)) (fun _ _ _ _ _ => (pg_name (i := 6) nd rfl (.inl rfl))) (fun _ _ _ _ _ => pts_nil) (fun _ _ _ _ _ => (pe_ix (r := rIxT K) ix_tup (pv 6) pe_int (fun _ _ => rfl)))) pa_nil)) pa_nil))) (pg_tup rfl (pgs_cons (pg_name (i := 3) nd rfl (.inr rfl)) (pgs_cons (pg_name (i := 4) nd rfl (.inr rfl)) pgs_nil)))) (pss_cons (ps_setLc (i := 5) (own := [("_law_name", 7), ("_law_start", 8), ("_law_pace", 9)]) (g := gTup K 3 (gCons (gName 7) (gCons (gName 8) (gCons (gName 9) gNil)))) (tt := tTest (tOp (rI0 fun i j => .bl (decide (j < i))) (tOp (rI0 fun i j => .int (i - j)) (tOp (rI0 fun i j => .int (i - j)) (tOp (rIxL K) (tDGet (tVar 3) (tVar 7)) (tUn (rU fun i => .int (-i)) (tC (.int 1)))) (tVar 8)) (tOp (rI CMul fun i j => .int (i * j)) (tVar 9) (tVar 4))) (tVar 2))) (te := tVar 7) (by rfl) nd rfl rfl (sw_true rfl rfl rfl (by decide +kernel)) (pi_tup (pv 1)) (blkOk_by (N := nLL) (sc := defScope sLoser) (by decide +kernel)) (fun _ _ _ _ _ => pg_tup rfl (pgs_cons (pg_name (i := 7) nd rfl (.inl rfl)) (pgs_cons (pg_name (i := 8) nd rfl (.inl rfl)) (pgs_cons (pg_name (i := 9) nd rfl (.inl rfl)) pgs_nil)))) (fun _ _ _ _ _ => pts_one (pt_cmpR op_gt (pe_op op_sub (pe_op op_sub (pe_ix (r := rIxL K) ix_list (pe_dget hu (pv 3) (pv 7) (fun _ _ => rfl)) (pe_un un_neg pe_int) (fun _ _ => rfl)) (pv 8)) (pe_op op_mul (pv 9) (pv 4))) (pv 2) (nomark _))) (fun _ _ _ _ _ => pv 7)) (pss_one (ps_ret (pe_ifExp (pt_cmpR (op_neNil hu64) (pv 5) (pe_lst pa_nil) (nomark _)) (pe_ix ix_list (pv 5) pe_int (fun _ _ => rfl)) pe_non))))), ?_⟩
    have h10 := CO.few
    have h12 := SO.few
    refine ⟨_, rfl, _, rfl, l, a, secs, cars, rfl, rn, ct, SO, CO, T0, fun H2 t2 tk od ld e2 T2 ht2 tk2 _ _ => ?_⟩
    refine ⟨t2, _, _, _, rfl, rfl, SqT.of ht2, rfl, ?_⟩
    have rn2 := rn.ext2 e2
    have ct2 := ct.ext e2
    obtain ⟨us, u1, u2, u3⟩ := id rn2
    have hus : (us.map V.ref).length = secs.length := by rw [List.length_map, u2]
    refine ⟨_, rfl, l, rfl, ⟨_, SqL.of u1⟩, fun D1 hD1 => ?_⟩
    refine lc_it walk_list (fun i H3 => Same H2 H3 ∧ H3 D1 = some (.lst ((secs.take i).map fun s => V.int ((s.2 : Nat) : Int))))
      ⟨sameNew hD1 _, upd_same⟩ (fun i H3 _ ⟨k3, _⟩ => SqL.of (k3 _ _ u1)) ?_ ?_
    · rintro i y Hz H3 hi ⟨k3, hL3⟩ ⟨e, hy⟩
      subst e
      obtain ⟨t, ht, rfl⟩ : ∃ t, us[i]? = some t ∧ y = V.ref t := by
        rw [List.getElem?_map] at hy
        obtain ⟨t, z1, z2⟩ := Option.map_eq_some_iff.mp hy
        exact ⟨t, z1, z2.symm⟩
      rw [hus] at hi
      have hc : secs[i]? = some secs[i] := List.getElem?_eq_getElem hi
      have hct := k3 _ _ (u3 i t _ ht hc)
      refine ⟨rfl, yes_of ⟨_, rfl, t, _, _, _, rfl, rfl, SqT.of hct, rfl, _, hL3, by rw [List.length_map, List.length_take]; exact small1000 (by omega), fun b o e => by rw [upd_ne (ne_of_none e hD1)]; exact k3 _ _ e, ?_⟩⟩
      rw [upd_same, tk1 hc, List.map_append]
      rfl
    rintro H3 ⟨k3, hL3⟩
    rw [hus, List.take_length] at hL3
    refine ⟨D1, secs.map fun s => ((s.2 : Nat) : Int), rfl, SqL.of (by rw [hL3, List.map_map]; rfl), ?_⟩
    have eS : (secs.map fun s => ((s.2 : Nat) : Int)).sum = ((unitsN secs : Nat) : Int) := by
      unfold unitsN
      rw [← sum_int, List.map_map]
      rfl
    rw [eS]
    refine ⟨by show 2 ≤ sizeLine; decide, fun x hx => ?_⟩
    refine ⟨x, _, rfl, SqT.of upd_same, rfl, _, _, rfl, _, _, rfl, rfl, ?_⟩
    have s5 := k3.trans (sameNew hx (.tup [V.ref tk, V.int ((unitsN secs : Nat) : Int)]))
    show tSeq _ _ _ _ (upd H3 x (.tup [V.ref tk, V.int ((unitsN secs : Nat) : Int)]))
    generalize upd H3 x (.tup [V.ref tk, V.int ((unitsN secs : Nat) : Int)]) = H5 at s5 ⊢
    have e5 := e2.trans (ExtN.same s5)
    have T5 := T2.ext s5
    have tk5 := tk2.ext (ExtN.same s5)
    obtain ⟨ts, c1, c2, c3⟩ := id (ct2.ext (ExtN.same s5))
    have hl : (ts.map V.ref).length = cars.length := by rw [List.length_map, c2]
    clear u1 u2 u3 hus hD1 hL3 k3 hx rn2 ct2 tk2 s5 e2 T2 rn ct T0
    refine ⟨_, rfl, a, rfl, ⟨_, SqT.of c1⟩, fun D2 hD2 => ?_⟩
    refine lc_it walk_tup (fun i H6 => Same H5 H6 ∧ H6 D2 = some (.lst ((loseL secs cars m i).map V.str)))
      ⟨sameNew hD2 _, upd_same⟩ (fun i H6 _ ⟨k6, _⟩ => SqT.of (k6 _ _ c1)) ?_ ?_
    · rintro i y Hz H6 hi ⟨k6, u6⟩ ⟨e, hy⟩
      subst e
      obtain ⟨t, ht, rfl⟩ : ∃ t, ts[i]? = some t ∧ y = V.ref t := by
        rw [List.getElem?_map] at hy
        obtain ⟨t, z1, z2⟩ := Option.map_eq_some_iff.mp hy
        exact ⟨t, z1, z2.symm⟩
      rw [hl] at hi
      have hc : cars[i]? = some cars[i] := List.getElem?_eq_getElem hi
      have hcm := List.getElem_mem hi
      have hct := k6 _ _ (c3 i t _ ht hc)
      have hnm : cars[i].name ∈ names cars := List.mem_map.mpr ⟨_, hcm, rfl⟩
      obtain ⟨kt, d, l0, z1, z2, z3, z4⟩ := tks_at (tk5.ext (ExtN.same k6)) hnm
      have pb := CO.all _ hcm
      refine ⟨t, _, rfl, SqT.of hct, rfl, _, _, rfl, _, _, rfl, _, _, rfl, rfl, rfl, ?_⟩
      refine ⟨_, rfl, _, rfl, tk, _, rfl, gk z1 z2, _, rfl, d, _, _, .int ((plcC secs cars secs.length).tk cars[i].name), rfl, rfl, SqL.of z4, atI_last _ _, _, rfl, _, _, rfl, rfl, _, rfl, _, rfl, _, _, rfl, rfl, .inl ⟨by have := pb.p0; omega, by have := pb.p1; omega⟩, _, _, rfl, rfl, _, rfl, _, _, rfl, rfl, _, rfl, ?_⟩
      have hv : (plcC secs cars secs.length).tk cars[i].name - cars[i].start - cars[i].pace * ((unitsN secs : Nat) : Int) = lossOf secs cars cars[i] := by
        unfold lossOf
        rw [startOf_car CO.nd hcm]
      rw [hv]
      have hs : loseL secs cars m (i + 1) = loseL secs cars m i ++ if m < lossOf secs cars cars[i] then [cars[i].name] else [] := by
        unfold loseL
        rw [tk1 hc, List.filter_append, List.map_append]
        by_cases h : m < lossOf secs cars cars[i] <;> simp [h]
      have hll : (loseL secs cars m i).length ≤ 10 := by
        unfold loseL
        rw [List.length_map]
        refine Nat.le_trans (List.length_filter_le _ _) ?_
        rw [List.length_take]
        omega
      rw [hs]
      by_cases h : m < lossOf secs cars cars[i]
      · rw [decide_eq_true h, if_pos h]
        refine iteT ⟨_, rfl, _, u6, small1000 (by rw [List.length_map]; omega), fun b o e => by rw [upd_ne (ne_of_none e hD2)]; exact k6 _ _ e, ?_⟩
        rw [upd_same, List.map_append]
        rfl
      · rw [decide_eq_false h, if_neg h, List.append_nil]
        exact iteF ⟨k6, u6⟩
    rintro H6 ⟨k6, u6⟩
    rw [hl] at u6
    refine ⟨_, rfl, Nat.zero_le _, fun z hz => ⟨D2, z, _, rfl, rfl, sameNew hz _ _ _ u6, upd_same, _, rfl, ?_⟩⟩
    have s7 := k6.trans (sameNew hz (.lst []))
    have kf := k _ (e5.trans (ExtN.same s7)) (T5.ext s7)
    have u7 := sameNew hz (.lst []) _ _ u6
    unfold loser at kf
    cases hL : loseL secs cars m cars.length with
    | nil =>
      rw [hL] at kf
      exact iteF kf
    | cons y r =>
      rw [hL] at kf u7
      exact iteT ⟨_, rfl, D2, _, ((0 : Nat) : Int), .str y, rfl, rfl, SqL.of u7, atI_nat rfl, kf⟩
end
end Sl

set_option Elab.async false
set_option linter.all false
set_option maxRecDepth 100000
set_option maxHeartbeats 2000000
namespace L2
open PySem PySem.Spec PyProof.Rows
/-- x(e, ..), x a def of the module that promises by position -/
theorem pe_callR {X : Cx} {CX : CXT} {k : Nat} {f : Addr} {sp : Sp} {E : XK} {x : Str} {e : Expr} {es : List Expr} {t : TA} {p pos : Pos} (F : FnR X.prog X.w X.K X.mg X.base CX k f sp) (hr : Room k X.A) (hk : PySem.W.keepIn X.K (.ref f) = true) (hg : Gl X x) (hm : X.mg x = some (.ref f)) (hx : Passes CX X E) (ha : PA X (e :: es) t)
    (hdb : (x == ("__debug__" : Str)) = false := by decide) (he : starEach (e :: es) X.env = (false, eval e X.env) :: starEach es X.env := by rfl) (hpl : (backTo pos (starEach es X.env)).any (·.1) = false := by rfl) :
    PE X (.Call (.Name x p) (e :: es) [] pos) (fun σ H Q => t σ H fun vs H1 => sp vs H1 Q E) := by
  refine ⟨fun pins s σ H Q I h => ?_⟩
  refine wpAny_Call_Name_kw (ld_glob I hg hm ?_ hdb)
  refine PySem.W.callWith_K (h₀ := X.base) I.ok.mod.kin hk (thn (ha.run pos pins s σ H _ I h) fun us s1 ⟨vs, H1, I1, r, q⟩ => ⟨I1.kIn, ?_⟩) he hpl
  exact wpAny_call (run_fnR F hr hx I1 r q)
end L2
namespace Sl
open PySem PySem.Spec L2 OwnR LamX
/-- a list of lists of numbers, none of them b -/
def SAt (b : Addr) (H : Hp) (q : Addr) (cs : List (List Nat)) : Prop := ∃ ts : List Addr, H q = some (.lst (ts.map V.ref)) ∧ ts.length = cs.length ∧ ∀ (i : Nat) (t : Addr) (c : List Nat), ts[i]? = some t → cs[i]? = some c → t ≠ b ∧ H t = some (.lst (natV c))
theorem SAt.same {b : Addr} {H H' : Hp} {q : Addr} {cs : List (List Nat)} (h : SAt b H q cs) (e : Same H H') : SAt b H' q cs := by
  obtain ⟨ts, h1, h2, h3⟩ := h
  exact ⟨ts, e _ _ h1, h2, fun i t c e1 e2 => ⟨(h3 i t c e1 e2).1, e _ _ (h3 i t c e1 e2).2⟩⟩
theorem SAt.cat {b : Addr} {H : Hp} {a c : Addr} {xs ys : List (List Nat)} (h1 : SAt b H a xs) (h2 : SAt b H c ys) : ∃ us vs, H a = some (.lst us) ∧ H c = some (.lst vs) ∧ us.length = xs.length ∧ vs.length = ys.length ∧ ∀ d, H d = none → SAt b (upd H d (.lst (us ++ vs))) d (xs ++ ys) := by
  obtain ⟨t1, a1, a2, a3⟩ := h1
  obtain ⟨t2, b1, b2, b3⟩ := h2
  refine ⟨t1.map V.ref, t2.map V.ref, a1, b1, by rw [List.length_map, a2], by rw [List.length_map, b2], fun d hd => ⟨t1 ++ t2, by rw [upd_same, List.map_append], by rw [List.length_append, List.length_append, a2, b2], fun i t v e1 e2 => ?_⟩⟩
  have key : t ≠ b ∧ H t = some (.lst (natV v)) := by
    by_cases hi : i < t1.length
    · rw [List.getElem?_append_left hi] at e1
      rw [List.getElem?_append_left (by omega)] at e2
      exact a3 i t v e1 e2
    · rw [List.getElem?_append_right (by omega)] at e1
      rw [List.getElem?_append_right (by omega), ← a2] at e2
      exact b3 _ t v e1 e2
  exact ⟨key.1, by rw [upd_ne (ne_of_none key.2 hd)]; exact key.2⟩
/-- a list of new lists, as it is being made -/
def LsI (b : Addr) (cs : List (List Nat)) (H : Hp) (D : Addr) (i : Nat) (H1 : Hp) : Prop := Same H H1 ∧ ∃ us : List Addr, H1 D = some (.lst (us.map V.ref)) ∧ us.length = i ∧ ∀ (q : Nat) (t : Addr) (c : List Nat), us[q]? = some t → cs[q]? = some c → t ≠ b ∧ t ≠ D ∧ H1 t = some (.lst (natV c))
theorem LsI.push {b : Addr} {cs : List (List Nat)} {H H1 H2 : Hp} {D x : Addr} {i : Nat} {c : List Nat} {o : HO} (F : LsI b cs H D i H1) (hD : H D = none) (e : Same H1 H2) (hx : H2 x = none) (hb : H b = some o) (hc : cs[i]? = some c) (hi : i < 1000) :
    ∃ acc, upd H2 x (.lst (natV c)) D = some (.lst acc) ∧ acc.length < sizeLine ∧ LsI b cs H D (i + 1) (upd (upd H2 x (.lst (natV c))) D (.lst (acc ++ [.ref x]))) := by
  obtain ⟨s1, us, u1, u2, u3⟩ := F
  have sx := e.trans (sameNew hx (.lst (natV c)))
  have u1' := sx _ _ u1
  have xD : x ≠ D := fun z => by rw [z] at hx; rw [e _ _ u1] at hx; cases hx
  have xb : x ≠ b := fun z => by rw [z] at hx; rw [e _ _ (s1 _ _ hb)] at hx; cases hx
  refine ⟨_, u1', by rw [List.length_map, u2]; exact small1000 (by omega), fun p o e => by rw [upd_ne (ne_of_none e hD)]; exact sx _ _ (s1 _ _ e), us ++ [x], by rw [upd_same, List.map_append]; rfl, by rw [List.length_append, u2]; rfl, fun q t' c' e1 e2 => ?_⟩
  rcases snoc_get e1 with e1 | ⟨hq, rfl⟩
  · obtain ⟨z1, z2, z3⟩ := u3 q t' c' e1 e2
    exact ⟨z1, z2, by rw [upd_ne z2]; exact sx _ _ z3⟩
  · rw [hq, u2, hc] at e2
    cases e2
    exact ⟨xb, xD, by rw [upd_ne xD]; exact upd_same⟩
theorem LsI.sat {b : Addr} {cs : List (List Nat)} {H H1 : Hp} {D : Addr} (F : LsI b cs H D cs.length H1) : SAt b H1 D cs := by
  obtain ⟨s1, us, u1, u2, u3⟩ := F
  exact ⟨us, u1, u2, fun i t c e1 e2 => ⟨(u3 i t c e1 e2).1, (u3 i t c e1 e2).2.2⟩⟩
theorem subsD_le (nar : List Nat) : ∀ c ∈ subsD nar, c.length ≤ nar.length := by
  have key : ∀ (l : List Nat) (S : List (List Nat)) (n : Nat), (∀ c ∈ S, c.length ≤ n) → ∀ c ∈ l.foldl (fun S x => S ++ S.map fun c => c ++ [x]) S, c.length ≤ n + l.length := by
    intro l
    induction l with
    | nil => intro S n h c hc; exact h c hc
    | cons x r ih =>
      intro S n h c hc
      have := ih (S ++ S.map fun c => c ++ [x]) (n + 1) (fun d hd => by
        rcases List.mem_append.mp hd with hd | hd
        · have := h d hd; omega
        · obtain ⟨e, he, rfl⟩ := List.mem_map.mp hd
          have := h e he
          simp
          omega) c hc
      simp
      omega
  intro c hc
  have := key nar [[]] 0 (fun d hd => by rw [List.mem_singleton.mp hd]; exact Nat.le_refl _) c hc
  omega
theorem loser_none {secs : List Sec} {cars : List Car} {m : Int} : loser secs cars m = none ↔ ∀ c ∈ cars, lossOf secs cars c ≤ m := by
  unfold loser loseL
  rw [List.take_length, List.head?_eq_none_iff, List.map_eq_nil_iff, List.filter_eq_nil_iff]
  constructor
  · intro h c hc
    have := h c hc
    simp at this
    omega
  · intro h c hc
    have := h c hc
    simp
    omega
theorem harm_in {secs : List Sec} {cars : List Car} {n : Nat} {q : Nat × Str} (h : q ∈ harmL secs cars n) : q.2 ∈ names cars := by
  obtain ⟨k, _, h⟩ := List.mem_flatMap.mp h
  obtain ⟨c, hc, rfl⟩ := List.mem_map.mp h
  exact List.mem_map.mpr ⟨c, List.mem_of_mem_take (List.mem_filter.mp hc).1, rfl⟩
theorem tups_cat {H : Hp} {a b : Addr} {v1 v2 : List (List V)} (h1 : TupsAt H a v1) (h2 : TupsAt H b v2) : ∃ xs ys, H a = some (.lst xs) ∧ H b = some (.lst ys) ∧ xs.length = v1.length ∧ ys.length = v2.length ∧ ∀ d, H d = none → TupsAt (upd H d (.lst (xs ++ ys))) d (v1 ++ v2) := by
  obtain ⟨t1, a1, a2, a3⟩ := h1
  obtain ⟨t2, b1, b2, b3⟩ := h2
  refine ⟨t1.map V.ref, t2.map V.ref, a1, b1, by rw [List.length_map, a2], by rw [List.length_map, b2], fun d hd => ⟨t1 ++ t2, by rw [upd_same, List.map_append], by rw [List.length_append, List.length_append, a2, b2], fun i t v e1 e2 => ?_⟩⟩
  have key : H t = some (.tup v) := by
    by_cases hi : i < t1.length
    · rw [List.getElem?_append_left hi] at e1
      rw [List.getElem?_append_left (by omega)] at e2
      exact a3 i t v e1 e2
    · rw [List.getElem?_append_right (by omega)] at e1
      rw [List.getElem?_append_right (by omega), ← a2] at e2
      exact b3 _ t v e1 e2
  rw [upd_ne (ne_of_none key hd)]
  exact key
theorem harmAt_succ {secs : List Sec} {cars : List Car} {k j : Nat} {c : Car} (h : cars[j]? = some c) : harmAt secs cars k (j + 1) = harmAt secs cars k j ++ if harmP secs cars k c = true then [(k, c.name)] else [] := by
  unfold harmAt
  rw [List.take_add_one, h, List.filter_append, List.map_append]
  cases g : harmP secs cars k c <;> simp [g]
theorem widen_nil (secs : List Sec) : widen secs [] = secs := by
  apply List.ext_getElem?
  intro i
  rcases Nat.lt_or_ge i secs.length with lt | ge
  · have e := List.getElem?_eq_getElem lt
    rw [widen_get e, e]
    simp
  · rw [List.getElem?_eq_none (by rw [widen_len]; exact ge), List.getElem?_eq_none ge]
theorem dp_nats {K : PySem.W.Frag} {H : Hp} {a : Addr} {c : List Nat} (h : H a = some (.lst (natV c))) : Dp K H (.ref a) (natsD c) := by
  refine .lst (SqL.of h) ?_
  have key : ∀ c : List Nat, DpAll K H (natV c) (c.map fun n => .int ((n : Nat) : Int)) := by
    intro c
    induction c with
    | nil => exact .nil
    | cons n r ih => exact .cons (.int _) ih
  exact key c
theorem shp_nats (c : List Nat) : Shp 1 (natsD c) := shp_list fun d hd => by
  obtain ⟨n, _, rfl⟩ := List.mem_map.mp hd
  exact shp_int _
def harmD (l : List (Nat × Str)) : PyData := .list (l.map fun q => .tuple [.int (q.1 : Nat), .str q.2])
theorem dp_harm {K : PySem.W.Frag} {H : Hp} {a : Addr} {l : List (Nat × Str)} (h : TupsAt H a (l.map harmV)) : Dp K H (.ref a) (harmD l) := by
  obtain ⟨ts, h1, h2, h3⟩ := h
  refine .lst (SqL.of h1) ?_
  have key : ∀ (ts : List Addr) (l : List (Nat × Str)), ts.length = (l.map harmV).length → (∀ (i : Nat) (t : Addr) (v : List V), ts[i]? = some t → (l.map harmV)[i]? = some v → H t = some (.tup v)) → DpAll K H (ts.map V.ref) (l.map fun q => .tuple [.int (q.1 : Nat), .str q.2]) := by
    intro ts
    induction ts with
    | nil =>
      intro l e _
      cases l with
      | nil => exact .nil
      | cons q r => simp at e
    | cons t ts ih =>
      intro l e h3
      cases l with
      | nil => simp at e
      | cons q r => exact .cons (.tup (SqT.of (h3 0 t (harmV q) rfl rfl)) (.cons (.int _) (.cons (.str _) .nil))) (ih r (by simpa using e) fun i u v e1 e2 => h3 (i + 1) u v (by simpa using e1) (by simpa using e2))
  exact key ts l h2 h3
theorem shp_harm {l : List (Nat × Str)} (h : ∀ q ∈ l, PyData.strOk q.2 = true) : Shp 2 (harmD l) := shp_list fun d hd => by
  obtain ⟨q, hq, rfl⟩ := List.mem_map.mp hd
  refine shp_tuple fun e he => ?_
  rcases List.mem_cons.mp he with rfl | he
  · exact shp_int _
  rcases List.mem_cons.mp he with rfl | he
  · exact shp_str (h q hq)
  · cases he
/-- the first of the sorted good choices is the program's -/
theorem sorted_first {secs : List Sec} {cars : List Car} {m : Int} {c : List Nat} {H : Hp} {ts us : List Addr} (h : FewW secs cars m c) (l1 : ts.length = ((subsD (narL secs secs.length)).filter fun d => decide (loser (widen secs d) cars m = none)).length)
    (at_ : ∀ (i : Nat) (t : Addr) (d : List Nat), ts[i]? = some t → ((subsD (narL secs secs.length)).filter fun d => decide (loser (widen secs d) cars m = none))[i]? = some d → H t = some (.lst (natV d)))
    (pm : us.Perm ts) (srt : us.Pairwise (fun x y => ltK (cfH H y) (cfH H x) = false)) : ∃ u r, us = u :: r ∧ H u = some (.lst (natV c)) := by
  obtain ⟨⟨a1, a2⟩, a3⟩ := few_least h
  generalize hg : ((subsD (narL secs secs.length)).filter fun d => decide (loser (widen secs d) cars m = none)) = gs at l1 at_
  have cm : c ∈ gs := by rw [← hg]; exact List.mem_filter.mpr ⟨a1, decide_eq_true a2⟩
  obtain ⟨i, hi⟩ := List.mem_iff_getElem?.mp cm
  obtain ⟨tc, htc⟩ : ∃ t, ts[i]? = some t := ⟨_, List.getElem?_eq_getElem (by rw [l1]; exact (List.getElem?_eq_some_iff.mp hi).1)⟩
  have hc := at_ i tc c htc hi
  have mus : tc ∈ us := pm.mem_iff.mpr (List.mem_of_getElem? htc)
  match us, mus, pm, srt with
  | u :: r, mus, pm, srt =>
    refine ⟨u, r, rfl, ?_⟩
    rcases List.mem_cons.mp mus with rfl | mr
    · exact hc
    · have z := (List.pairwise_cons.mp srt).1 tc mr
      obtain ⟨j, hj⟩ := List.mem_iff_getElem?.mp (pm.mem_iff.mp List.mem_cons_self)
      obtain ⟨d, hd⟩ : ∃ d, gs[j]? = some d := ⟨_, List.getElem?_eq_getElem (by rw [← l1]; exact (List.getElem?_eq_some_iff.mp hj).1)⟩
      have hu := at_ j u d hj hd
      rw [cfH_of hc, cfH_of hu] at z
      have dm := List.mem_of_getElem? hd
      rw [← hg] at dm
      obtain ⟨d1, d2⟩ := List.mem_filter.mp dm
      rcases a3 d d1 (of_decide_eq_true d2) with rfl | lt | ⟨eq, lx⟩
      · exact hu
      · rw [ltK_iff.mpr (.inl lt)] at z
        cases z
      · rw [ltK_iff.mpr (.inr ⟨eq, lx⟩)] at z
        cases z
theorem RowAt.lst {K : PySem.W.Frag} {H : Hp} {r sc : Addr} {ns : List Int} (R : RowAt K H r sc ns) : ∃ xs, H r = some (.lst xs) := let ⟨_, _, _, h⟩ := R.at_; ⟨_, h⟩
end Sl

set_option Elab.async false
set_option linter.all false
set_option maxRecDepth 100000
set_option maxHeartbeats 4000000
namespace Sl
open PySem PySem.Spec L2 OwnR LamX
def qLaw : Str := ("law" : Str) ++ (".<locals>." : Str) ++ ("<lambda>" : Str)
def nLaw : List Str := ["_law_script", "_law_row", "_law_road", "_law_sections_here", "_law_cars_here", "_law_most", "_law_narrow", "_law_rows", "_law_k", "_law_good", "_law_found", "_law_harmful", "_law_ticks", "_law_wide", "_law_other", "_law_some", "_law_car"]
theorem scLaw : FnScope nLaw ["_law_script"] (defScope sLaw) := ⟨rfl, rfl, rfl, by decide +kernel, rfl, by decide +kernel, by decide +kernel⟩
theorem CarsAt.keepB {H H' : Hp} {a r : Addr} {cars : List Car} {xs : List V} (h : CarsAt H a cars) (k : KeepB r H H') (hr : H r = some (.lst xs)) : CarsAt H' a cars := by
  obtain ⟨ts, h1, h2, h3⟩ := h
  have nl := k.notlst hr
  exact ⟨ts, nl _ _ h1 fun _ z => (nomatch z), h2, fun i t c e1 e2 => nl _ _ (h3 i t c e1 e2) fun _ z => nomatch z⟩
/-- what the law has at hand, once nothing more is drawn -/
structure LawC (CR : Addr) (T : List (Addr × Str)) (H : Hp) (l a p : Addr) (secs : List Sec) (cars : List Car) : Prop where
  rn : RunsAt H l secs
  rd : RoadAt CR H p secs
  ct : CarsAt H a cars
  tb : Tabs T H
theorem LawC.ext {CR : Addr} {T : List (Addr × Str)} {H H' : Hp} {l a p : Addr} {secs : List Sec} {cars : List Car} (F : LawC CR T H l a p secs cars) (e : ExtN H H') (t : Tabs T H') : LawC CR T H' l a p secs cars := ⟨F.rn.ext2 e, F.rd.ext2 e, F.ct.ext e, t⟩
theorem LawC.same {CR : Addr} {T : List (Addr × Str)} {H H' : Hp} {l a p : Addr} {secs : List Sec} {cars : List Car} (F : LawC CR T H l a p secs cars) (e : Same H H') : LawC CR T H' l a p secs cars := F.ext (ExtN.same e) (F.tb.ext e)
/-- all that the law asks of the program -/
structure Env63 (P : Program) (w : World) (K : PySem.W.Frag) (mg : Str → Option Value) (base : Heap) (CR C : Addr) (T : List (Addr × Str)) : Prop where
  M : Mg mg
  taken : ∃ f fd, Fb K mg "_law_taken" sTaken ["_law_row", "_law_many"] f fd ∧ FnOk P w K mg base CX0 1 f fd ["_law_row", "_law_many"] (spTaken K)
  drawn : ∃ f fd, Fb K mg "_law_drawn" sDrawn ["_law_row", "_law_sections_here", "_law_cars_here"] f fd ∧ FnOk P w K mg base CX0 6 f fd ["_law_row", "_law_sections_here", "_law_cars_here"] (spDrawn K CR)
  driven : ∃ f fd c, FbC K mg "_law_driven" sDriven ["_law_sections_here", "_law_cars_here"] f fd c ∧ FnOk P w K mg base CX0 3 f fd ["_law_sections_here", "_law_cars_here"] (spDriven T)
  wide : ∃ f fd, Fb K mg "_law_widened" sWidened ["_law_sections_here", "_law_some"] f fd ∧ FnOk P w K mg base CX0 1 f fd ["_law_sections_here", "_law_some"] spLW
  ll : ∃ f fd, Fb K mg "_law_loser" sLoser ["_law_sections_here", "_law_cars_here", "_law_most"] f fd ∧ FnOk P w K mg base CX0 4 f fd ["_law_sections_here", "_law_cars_here", "_law_most"] (spLL T)
  few : ∃ f fd, Fb K mg "fewest_widened" sFewestWidened ["road", "cars", "most"] f fd ∧ FnOk P w K mg base CX0 8 f fd ["road", "cars", "most"] (spFew CR T)
  loser : ∃ f, mg "first_loser" = some (.ref f) ∧ PySem.W.keepIn K (.ref f) = true ∧ FnR P w K mg base CX0 7 f (spFL CR T)
  harm : ∃ f fd, Fb K mg "harmful_widenings" sHarmfulWidenings ["road", "cars"] f fd ∧ FnOk P w K mg base CX0 8 f fd ["road", "cars"] (spHarm CR T)
section
variable {P : Program} {w : World} {K : PySem.W.Frag} {mg : Str → Option Value} {base : Heap}
def spLaw (K : PySem.W.Frag) (T : List (Addr × Str)) : Sp := fun vs H Q _ => ∃ (sc : Addr) (ns : List Int), vs = [.ref sc] ∧ SqL K H sc (ns.map V.int) ∧ Tabs T H ∧ ∀ H', Q (.bl true) H'
theorem ok_law {f c Pt CR C : Addr} {fd : FuncData} {T : List (Addr × Str)} (F : FunC K "law" "law" sLaw f fd c) (TB : TabB base mg c Pt) (hm : (Pt, qLaw) ∈ T) (hut : ∀ p ∈ T, p.1 = Pt → p.2 = qLaw) (X9 : Env63 P w K mg base CR C T) : FnOk P w K mg base CX0 11 f fd ["_law_script"] (spLaw K T) := by
  refine F.ok scLaw (fun vs H Q E h => ?_) (fun A outer s H vs Q E hr h => ?_)
  · obtain ⟨sc, ns, rfl, _⟩ := h
    rfl
  · obtain ⟨sc, ns, rfl, hsc, hT, k⟩ := h
    have nd := scLaw.nd
    have hu := hu_of hr
    have hu64 := hr.units
    have M := X9.M
    obtain ⟨_, _, BT, GT⟩ := X9.taken
    obtain ⟨_, _, BD, GD⟩ := X9.drawn
    obtain ⟨_, _, _, BV, GV⟩ := X9.driven
    obtain ⟨_, _, BW, GW⟩ := X9.wide
    obtain ⟨_, _, BL, GL⟩ := X9.ll
    obtain ⟨_, _, BFe, GFe⟩ := X9.few
    obtain ⟨_, aFl, kFl, GFl⟩ := X9.loser
    obtain ⟨_, _, BHa, GHa⟩ := X9.harm
    have room : ∀ n, n ≤ 10 → Room n (A.deeper (PyProof.Rows.envOfC "law" (defScope sLaw) s.heap.objs.size f (.ref c))) := fun n h => hr.mono h
    have hr1 := room 1 (by decide)
    have hr2 := room 2 (by decide)
    have hr3 := room 3 (by decide)
    have hr4 := room 4 (by decide)
    have hr6 := room 6 (by decide)
    have hr7 := room 7 (by decide)
    have hr8 := room 8 (by decide)
    refine ⟨_, (pss_cons (ps_set (i := 1) nd rfl (.inl rfl) (pe_lst (pa_cons (pv 0) (pa_cons pe_int (pa_cons pe_int (pa_cons pe_int pa_nil)))))) (pss_cons (ps_asg (pe_call GD hr6 (by rfl) BD.at_ BD.fn.kp BD.bd .nil pass0 (pa_cons (pv 1) (pa_cons pe_int (pa_cons pe_int pa_nil)))) (pg_tup rfl (pgs_cons (pg_name (i := 2) nd rfl (.inl rfl)) (pgs_cons (pg_name (i := 3) nd rfl (.inr rfl)) (pgs_cons (pg_name (i := 4) nd rfl (.inr rfl)) pgs_nil))))) (pss_cons (ps_set (i := 5) nd rfl (.inr rfl) (pe_call GT hr1 (by rfl) BT.at_ BT.fn.kp BT.bd .nil pass0 (pa_cons (pv 1) (pa_cons (pe_ix ix_list (pe_lst (pa_cons pe_int (pa_cons pe_int pa_nil))) (pe_call GT hr1 (by rfl) BT.at_ BT.fn.kp BT.bd .nil pass0 (pa_cons (pv 1) (pa_cons pe_int pa_nil))) (fun _ _ => rfl)) pa_nil)))) (pss_cons (ps_par (i := 6) (j := 7) rfl nd rfl rfl (by decide) rfl rfl (pa_cons (pe_lc (own := [("_law_k", 8)]) (g := gName 8) (tt := tTest (tOp rEq (tOp (rIxT K) (tOp (rIxL K) (tVar 3) (tVar 8)) (tC (.int 0))) (tC (.str "narrow")))) (te := tVar 8) (by rfl) nd (pi_range1 (by rfl) M.range (pa_cons (pe_callB call_len_seq (by rfl) M.len boot_len (pa_cons (pv 3) pa_nil)) pa_nil)) (blkOk_by (N := nLaw) (sc := defScope sLaw) (by decide +kernel)) (fun _ _ _ _ _ => (pg_name (i := 8) nd rfl (.inl rfl))) (fun _ _ _ _ _ => (pts_one (pt_cmpR op_eq (pe_ix (r := rIxT K) ix_tup (pe_ix (r := rIxL K) ix_list (pv 3) (pv 8) (fun _ _ => rfl)) pe_int (fun _ _ => rfl)) pe_str (nomark _)))) (fun _ _ _ _ _ => (pv 8))) (pa_cons (pe_lst (pa_cons (pe_lst pa_nil) pa_nil)) pa_nil)) rfl) (pss_cons (ps_for PassesOwn.never rfl (pi_list (pv 6)) (pg_name (i := 8) nd rfl (.inr rfl)) (pss_one (ps_set (i := 7) nd rfl (.inl rfl) (pe_op op_cat (pv 7) (pe_lc (own := [("_law_some", 15)]) (g := gName 15) (tt := tYes) (te := tOp rCat (tVar 15) (tLst (tCons (tVar 8) tNil))) (by rfl) nd (pi_list (pv 7)) (blkOk_by (N := nLaw) (sc := defScope sLaw) (by decide +kernel)) (fun _ _ _ _ _ => (pg_name (i := 15) nd rfl (.inl rfl))) (fun _ _ _ _ _ => pts_nil) (fun _ _ _ _ _ => (pe_op op_cat (pv 15) (pe_lst (pa_cons (pv 8) pa_nil))))))))) (pss_cons (ps_setLc (i := 9) (own := [("_law_some", 15)]) (g := gName 15) (tt := tB (tIsN (tCall (spLL T) [] E0 (tCons (tCall spLW [] E0 (tCons (tVar 3) (tCons (tVar 15) tNil))) (tCons (tVar 4) (tCons (tVar 5) tNil)))))) (te := tVar 15) (by rfl) nd rfl rfl (sw_true rfl rfl rfl (by decide +kernel)) (pi_list (pv 7)) (blkOk_by (N := nLaw) (sc := defScope sLaw) (by decide +kernel)) (fun _ _ _ _ _ => (pg_name (i := 15) nd rfl (.inl rfl))) (fun _ _ _ _ _ => (pts_one (pt_cmp (pc_isN (pe_call GL hr4 (by rfl) BL.at_ BL.fn.kp BL.bd .nil pass0 (pa_cons (pe_call GW hr1 (by rfl) BW.at_ BW.fn.kp BW.bd .nil pass0 (pa_cons (pv 3) (pa_cons (pv 15) pa_nil))) (pa_cons (pv 4) (pa_cons (pv 5) pa_nil)))))))) (fun _ _ _ _ _ => (pv 15))) (pss_cons (ps_set (i := 9) nd rfl (.inl rfl) (pe_sortKT (par := "_law_some") hr2 TB rfl hm hut (by rfl) M.sorted M.len (lamP_by (sc := defScope sLaw) (by decide +kernel)) (pv 9))) (pss_cons (ps_set (i := 10) nd rfl (.inl rfl) (pe_call GFe hr8 (by rfl) BFe.at_ BFe.fn.kp BFe.bd .nil pass0 (pa_cons (pv 2) (pa_cons (pv 4) (pa_cons (pv 5) pa_nil))))) (pss_cons (ps_if (pt_cmpR (op_neD hu64) (pv 10) (pe_ix (r := rIxL K) ix_list (pv 9) pe_int (fun _ _ => rfl)) (nomark _)) (pss_one (ps_ret pe_bl)) pss_nil) (pss_cons (ps_if (pt_cmpR op_ne (pe_callR GFl hr7 kFl (by rfl) aFl pass0 (pa_cons (pv 2) (pa_cons (pv 4) (pa_cons (pv 5) pa_nil)))) (pe_call GL hr4 (by rfl) BL.at_ BL.fn.kp BL.bd .nil pass0 (pa_cons (pv 3) (pa_cons (pv 4) (pa_cons (pv 5) pa_nil)))) (nomark _)) (pss_one (ps_ret pe_bl)) pss_nil) (pss_cons (ps_asg (pe_tup (pa_cons (pe_lst pa_nil) (pa_cons (pe_ix (r := rIxT K) ix_tup (pe_call GV hr3 (by rfl) BV.at_ BV.fn.kp BV.bd .nil pass0 (pa_cons (pv 3) (pa_cons (pv 4) pa_nil))) pe_int (fun _ _ => rfl)) pa_nil))) (pg_tup rfl (pgs_cons (pg_name (i := 11) nd rfl (.inl rfl)) (pgs_cons (pg_name (i := 12) nd rfl (.inr rfl)) pgs_nil)))) (pss_cons (ps_for PassesOwn.never rfl (pi_range1 (by rfl) M.range (pa_cons (pe_callB call_len_seq (by rfl) M.len boot_len (pa_cons (pv 3) pa_nil)) pa_nil)) (pg_name (i := 8) nd rfl (.inr rfl)) (pss_cons (ps_set (i := 13) nd rfl (.inl rfl) (pe_call GW hr1 (by rfl) BW.at_ BW.fn.kp BW.bd .nil pass0 (pa_cons (pv 3) (pa_cons (pe_lst (pa_cons (pv 8) pa_nil)) pa_nil)))) (pss_cons (ps_if (pt_cmpR op_ne (pe_callR GFl hr7 kFl (by rfl) aFl pass0 (pa_cons (pv 2) (pa_cons (pv 4) (pa_cons (pv 5) (pa_cons (pv 8) pa_nil))))) (pe_call GL hr4 (by rfl) BL.at_ BL.fn.kp BL.bd .nil pass0 (pa_cons (pv 13) (pa_cons (pv 4) (pa_cons (pv 5) pa_nil)))) (nomark _)) (pss_one (ps_ret pe_bl)) pss_nil) (pss_cons (ps_set (i := 14) nd rfl (.inr rfl) (pe_ix (r := rIxT K) ix_tup (pe_call GV hr3 (by rfl) BV.at_ BV.fn.kp BV.bd .nil pass0 (pa_cons (pv 13) (pa_cons (pv 4) pa_nil))) pe_int (fun _ _ => rfl))) (pss_one (ps_set (i := 11) nd rfl (.inl rfl) (pe_op op_cat (pv 11) (pe_lc (own := [("_law_car", 16)]) (g := gName 16) (tt := tTest (tOp (rI0 fun i j => .bl (decide (j < i))) (tOp (rIxL K) (tDGet (tVar 14) (tOp (rIxT K) (tVar 16) (tC (.int 0)))) (tUn (rU fun i => .int (-i)) (tC (.int 1)))) (tOp (rIxL K) (tDGet (tVar 12) (tOp (rIxT K) (tVar 16) (tC (.int 0)))) (tUn (rU fun i => .int (-i)) (tC (.int 1)))))) (te := tTup (tCons (tVar 8) (tCons (tOp (rIxT K) (tVar 16) (tC (.int 0))) tNil))) (by rfl) nd (pi_tup (pv 4)) (blkOk_by (N := nLaw) (sc := defScope sLaw) (by decide +kernel)) (fun _ _ _ _ _ => (pg_name (i := 16) nd rfl (.inl rfl))) (fun _ _ _ _ _ => (pts_one (pt_cmpR op_gt (pe_ix (r := rIxL K) ix_list (pe_dget hu (pv 14) (pe_ix (r := rIxT K) ix_tup (pv 16) pe_int (fun _ _ => rfl)) (fun _ _ => rfl)) (pe_un un_neg pe_int) (fun _ _ => rfl)) (pe_ix (r := rIxL K) ix_list (pe_dget hu (pv 12) (pe_ix (r := rIxT K) ix_tup (pv 16) pe_int (fun _ _ => rfl)) (fun _ _ => rfl)) (pe_un un_neg pe_int) (fun _ _ => rfl)) (nomark _)))) (fun _ _ _ _ _ => (pe_tup (pa_cons (pv 8) (pa_cons (pe_ix (r := rIxT K) ix_tup (pv 16) pe_int (fun _ _ => rfl)) pa_nil)))))))))))) (pss_one (ps_ret (pe_cmpR (op_eqD hu64) (pe_call GHa hr8 (by rfl) BHa.at_ BHa.fn.kp BHa.bd .nil pass0 (pa_cons (pv 2) (pa_cons (pv 4) pa_nil))) (pv 11) (nomark _)))))))))))))))), ?_⟩
    refine ⟨_, rfl, by show 4 ≤ sizeLine; decide, fun r hr0 => ?_⟩
    have S0 := same_new hr0 (.lst [V.ref sc, V.int 0, V.int 0, V.int 0])
    have R0 : RowAt K (upd H r (.lst [V.ref sc, V.int 0, V.int 0, V.int 0])) r sc ns := by
      refine ⟨⟨0, 0, 0, upd_same⟩, fun H' k' => ?_⟩
      rcases hsc with (e | ⟨o, e⟩) | e
      · exact .inl (.inl (k' _ _ (S0 _ _ e) (ne_of_none e hr0)))
      · exact .inl (.inr ⟨o, k' _ _ (S0 _ _ e) (ne_of_none e hr0)⟩)
      · exact .inr e
    have T0 : Tabs T (upd H r (.lst [V.ref sc, V.int 0, V.int 0, V.int 0])) := hT.ext S0
    have hrow0 : upd H r (.lst [V.ref sc, V.int 0, V.int 0, V.int 0]) r = some (.lst [V.ref sc, V.int 0, V.int 0, V.int 0]) := upd_same
    generalize upd H r (.lst [V.ref sc, V.int 0, V.int 0, V.int 0]) = H0 at S0 R0 T0 hrow0 ⊢
    refine ⟨_, rfl, r, sc, ns, 7, 5, rfl, by decide, by decide, by decide, R0, fun H1 t p l a bs cars k1 R1 ht1 rd1 rn1 nl ct1 SO CO h7 _ => ?_⟩
    have T1 := Tabs.keepL T0 (k1.notlst hrow0)
    refine ⟨t, _, rfl, SqT.of ht1, rfl, _, _, rfl, _, _, rfl, _, _, rfl, rfl, ?_⟩
    clear S0 R0 T0 hrow0 k1 ht1 hT hsc hr0
    generalize runsOf bs = secs at *
    have h10 := CO.few
    have h12 := SO.few
    have nok := namesOk CO
    -- the greatest loss
    refine ⟨_, rfl, by show 2 ≤ sizeLine; decide, fun q hq => ?_⟩
    have sq := sameNew hq (.lst [V.int 2, V.int 20])
    have hql : upd H1 q (.lst [V.int 2, V.int 20]) q = some (.lst [V.int 2, V.int 20]) := upd_same
    have nqr : q ≠ r := (ne_of_none R1.lst.choose_spec hq).symm
    have R2 := R1.same sq
    have T2 := T1.ext sq
    have rd2 := rd1.ext2 (ExtN.same sq)
    have rn2 := rn1.ext2 (ExtN.same sq)
    have ct2 := ct1.ext (ExtN.same sq)
    generalize upd H1 q (.lst [V.int 2, V.int 20]) = H2 at hql R2 T2 rd2 rn2 ct2 ⊢
    clear sq hq R1 T1 rd1 rn1 ct1
    refine ⟨_, rfl, r, sc, ns, 2, rfl, by decide, by decide, R2, fun H3 b k3 R3 hb => ?_⟩
    obtain ⟨x2, hx2⟩ := R2.lst
    have ql3 := k3 _ _ hql nqr
    have T3 := Tabs.keepL T2 (k3.notlst hx2)
    have rd3 := rd2.keepB k3 hx2
    have rn3 := rn2.keepB k3 nl hx2
    have ct3 := ct2.keepB k3 hx2
    clear R2 T2 rd2 rn2 ct2 hql k3 hx2
    obtain ⟨mm, hmm, mm1, mm2⟩ : ∃ mm : Nat, ([V.int 2, V.int 20] : List V)[b]? = some (V.int ((mm : Nat) : Int)) ∧ 1 ≤ mm ∧ mm ≤ 20 := by
      match b, hb with
      | 0, _ => exact ⟨2, rfl, by decide, by decide⟩
      | 1, _ => exact ⟨20, rfl, by decide, by decide⟩
    refine ⟨q, _, ((b : Nat) : Int), _, rfl, rfl, SqL.of ql3, atI_nat hmm, ?_⟩
    refine ⟨r, sc, ns, mm, rfl, mm1, by omega, R3, fun H4 m0 k4 R4 hm0 => ?_⟩
    obtain ⟨x3, hx3⟩ := R3.lst
    have F4 : LawC CR T H4 l a p secs cars := ⟨rn3.keepB k4 nl hx3, rd3.keepB k4 hx3, ct3.keepB k4 hx3, Tabs.keepL T3 (k4.notlst hx3)⟩
    obtain ⟨x4, hr4'⟩ := R4.lst
    clear R3 T3 rd3 rn3 ct3 ql3 k4 hx3 R4 nqr
    have m0' : (0 : Int) ≤ ((m0 : Nat) : Int) := by omega
    have m1' : ((m0 : Nat) : Int) ≤ 1000000 := by omega
    generalize ((m0 : Nat) : Int) = m at m0' m1' ⊢
    -- the narrow sections
    obtain ⟨us, u1, u2, u3⟩ := id F4.rn
    have hus : (us.map V.ref).length = secs.length := by rw [List.length_map, u2]
    refine ⟨_, rfl, l, _, rfl, .inl (SqL.of u1), ?_⟩
    rw [hus]
    refine ⟨_, rfl, by omega, by omega, fun D hD => ?_⟩
    rw [Int.toNat_natCast]
    refine lc_it walk_range (fun i H1 => Same H4 H1 ∧ H1 D = some (.lst (natV (narL secs i)))) ⟨sameNew hD _, upd_same⟩ (fun _ _ _ _ => True.intro) ?_ ?_
    · rintro i z Hz H5 hi ⟨k1, d1⟩ ⟨e, ez⟩
      have ez : z = V.int ((i : Nat) : Int) := by
        rw [ez]
        show V.int (0 + ((i : Nat) : Int)) = _
        rw [Int.zero_add]
      subst e ez
      obtain ⟨t, ht⟩ : ∃ t, us[i]? = some t := ⟨_, List.getElem?_eq_getElem (by omega)⟩
      have hc : secs[i]? = some secs[i] := List.getElem?_eq_getElem hi
      have hct := k1 _ _ (u3 i t _ ht hc)
      have hn : isNar secs i = !secs[i].1 := by unfold isNar; rw [hc]; rfl
      have hnl := narL_len secs i
      refine ⟨rfl, ?_⟩
      refine ⟨_, rfl, _, rfl, l, _, _, .ref t, rfl, rfl, SqL.of (k1 _ _ u1), atI_nat (map_at V.ref ht), t, _, _, _, rfl, rfl, SqT.of hct, rfl, rfl, _, rfl, ?_⟩
      rw [show decide (V.str (kindS secs[i].1) = V.str "narrow") = isNar secs i by rw [hn]; cases secs[i].1 <;> rfl, narL_succ]
      cases hq : isNar secs i with
      | true =>
        refine iteT ⟨_, rfl, _, d1, small1000 (by rw [natV_len]; omega), fun b o e => by rw [upd_ne (ne_of_none e hD)]; exact k1 _ _ e, ?_⟩
        rw [upd_same, if_pos rfl, natV_app]
        rfl
      | false =>
        refine iteF ⟨k1, ?_⟩
        rw [if_neg (by decide), List.append_nil]
        exact d1
    rintro H5 ⟨s5, D5⟩
    have F5 := F4.same s5
    have r5 := s5 _ _ hr4'
    clear F4 s5 u1 u3 hD us u2 hus hr4'
    have nl7 : (narL secs secs.length).length ≤ 7 := by have := narL_len secs secs.length; omega
    generalize hnar : narL secs secs.length = nar at D5 nl7
    -- the choices
    refine ⟨by show 0 ≤ sizeLine; decide, fun q0 hq0 => ⟨by show 1 ≤ sizeLine; decide, fun q1 hq1 => ?_⟩⟩
    have s17 := (sameNew hq0 (.lst [])).trans (sameNew hq1 (.lst [V.ref q0]))
    have w0 := sameNew hq1 (.lst [V.ref q0]) _ _ (upd_same (H := H5) (a := q0) (o := .lst []))
    have w1 : upd (upd H5 q0 (.lst [])) q1 (.lst [V.ref q0]) q1 = some (.lst [V.ref q0]) := upd_same
    have q0b : q0 ≠ r := (ne_of_none r5 hq0).symm
    have q1b : q1 ≠ r := (ne_of_none (sameNew hq0 (.lst []) _ _ r5) hq1).symm
    have S17 : SAt r (upd (upd H5 q0 (.lst [])) q1 (.lst [V.ref q0])) q1 (subsD (nar.take 0)) := ⟨[q0], w1, rfl, fun i t c e1 e2 => by
      match i, e1, e2 with
      | 0, e1, e2 =>
        obtain rfl : q0 = t := Option.some.inj e1
        obtain rfl : ([] : List Nat) = c := Option.some.inj e2
        exact ⟨q0b, w0⟩⟩
    have b17 := s17 _ _ r5
    have D17 := s17 _ _ D5
    have F17 := F5.same s17
    refine ⟨_, _, rfl, ?_⟩
    generalize upd (upd H5 q0 (.lst [])) q1 (.lst [V.ref q0]) = H17 at s17 S17 b17 D17 F17 ⊢
    clear w0 w1 q0b hq0 hq1 q0 F5 s17 r5 D5
    have sl : ∀ i, (subsD (nar.take i)).length ≤ 128 := fun i => by
      rw [subsD_len]
      exact Nat.pow_le_pow_right (show 0 < 2 by decide) (show (nar.take i).length ≤ 7 by rw [List.length_take]; omega)
    refine ⟨_, rfl, D, rfl, ⟨_, SqL.of D17⟩, for_it walk_list (fun i σ H => ∃ v8 q, σ = [some (.ref sc), some (.ref r), some (.ref p), some (.ref l), some (.ref a), some (.int m), some (.ref D), some (.ref q), v8, none, none, none, none, none, none, none, none] ∧ Same H17 H ∧ q ≠ r ∧ SAt r H q (subsD (nar.take i)))
      ⟨_, q1, rfl, Same.refl _, q1b, S17⟩ (fun i σ H _ ⟨_, _, _, k, _⟩ => SqL.of (k _ _ D17)) ?_ ?_⟩
    · rintro i y σ Hz H18 hi ⟨v8', q, rfl, s18, qb, S18⟩ ⟨e, hy⟩
      subst e
      obtain ⟨kk, hkk, rfl⟩ : ∃ kk, nar[i]? = some kk ∧ y = V.int ((kk : Nat) : Int) := by
        unfold natV at hy
        rw [List.getElem?_map] at hy
        obtain ⟨t, z1, z2⟩ := Option.map_eq_some_iff.mp hy
        exact ⟨t, z1, z2.symm⟩
      have l18 := sl i
      have b18 := s18 _ _ b17
      have enext : subsD (nar.take (i + 1)) = subsD (nar.take i) ++ (subsD (nar.take i)).map fun c => c ++ [kk] := by
        rw [List.take_add_one, hkk]
        exact subsD_snoc _ _
      rw [enext]
      have c18 : ∀ c ∈ subsD (nar.take i), c.length ≤ 7 := fun c hc => by have := subsD_le _ c hc; rw [List.length_take] at this; omega
      generalize subsD (nar.take i) = cs at S18 l18 c18
      obtain ⟨ts, t1, t2, t3⟩ := id S18
      refine ⟨_, rfl, _, rfl, q, rfl, ⟨_, SqL.of t1⟩, fun D2 hD2 => ?_⟩
      refine lc_it walk_list (fun j H => LsI r (cs.map fun c => c ++ [kk]) H18 D2 j H) ⟨sameNew hD2 _, [], upd_same, rfl, fun q t c e => by simp at e⟩ (fun j H _ F => SqL.of (F.1 _ _ t1)) ?_ ?_
      · rintro j y Hz H19 hj F ⟨e, hy⟩
        subst e
        obtain ⟨t, ht, rfl⟩ : ∃ t, ts[j]? = some t ∧ y = V.ref t := by
          rw [List.getElem?_map] at hy
          obtain ⟨t, z1, z2⟩ := Option.map_eq_some_iff.mp hy
          exact ⟨t, z1, z2.symm⟩
        rw [List.length_map, t2] at hj
        obtain ⟨cc, hc⟩ : ∃ cc, cs[j]? = some cc := ⟨_, List.getElem?_eq_getElem hj⟩
        have ht19 := F.1 _ _ (t3 j t cc ht hc).2
        refine ⟨rfl, yes_of ⟨_, rfl, _, rfl, by show 1 ≤ sizeLine; decide, fun x hx => ?_⟩⟩
        have sx := sameNew hx (.lst [V.int ((kk : Nat) : Int)])
        refine ⟨t, x, natV cc, [V.int ((kk : Nat) : Int)], rfl, rfl, sx _ _ ht19, upd_same, ?_, fun z hz => ?_⟩
        · have := c18 cc (List.mem_of_getElem? hc)
          rw [natV_len]
          exact Nat.le_of_lt (small1000 (by show cc.length + 1 ≤ 1000; omega))
        · have e1 : natV cc ++ [V.int ((kk : Nat) : Int)] = natV (cc ++ [kk]) := (natV_app cc [kk]).symm
          rw [e1]
          exact F.push hD2 sx hz b18 (by rw [List.getElem?_map, hc]; rfl) (by omega)
      · rintro H19 F
        rw [List.length_map, t2, ← List.length_map (as := cs) (fun c => c ++ [kk])] at F
        have s19 := F.1
        obtain ⟨us, vs, x1, x2, x3, x4, x5⟩ := (S18.same s19).cat F.sat
        rw [List.length_map] at x4
        refine ⟨q, D2, us, vs, rfl, rfl, x1, x2, Nat.le_of_lt (small1000 (by omega)), fun d hd => ?_⟩
        exact ⟨_, d, rfl, s18.trans (s19.trans (sameNew hd _)), (ne_of_none (s19 _ _ b18) hd).symm, x5 d hd⟩
    rintro σ H18 ⟨v8', q, rfl, s18, qb, S18⟩
    rw [show (natV nar).length = nar.length from natV_len nar, List.take_length] at S18
    have l18 : (subsD nar).length ≤ 128 := by have := sl nar.length; rwa [List.take_length] at this
    have c18 : ∀ c ∈ subsD nar, c.length ≤ 7 := fun c hc => by have := subsD_le _ c hc; omega
    have F18 := F17.same s18
    clear F17 s18 S17 b17 D17 q1b q1 sl
    -- the good ones
    obtain ⟨ts, t1, t2, t3⟩ := S18
    have t3' : ∀ (i : Nat) (t : Addr) (c : List Nat), ts[i]? = some t → (subsD nar)[i]? = some c → H18 t = some (.lst (natV c)) := fun i t c e1 e2 => (t3 i t c e1 e2).2
    clear t3
    refine ⟨_, rfl, q, rfl, ⟨_, SqL.of t1⟩, fun G hG => ?_⟩
    refine lc_it walk_list (fun i H => ExtN H18 H ∧ Tabs T H ∧ ∃ gs : List Addr, H G = some (.lst (gs.map V.ref)) ∧ gs.length = (((subsD nar).take i).filter fun d => decide (loser (widen secs d) cars m = none)).length ∧ ∀ (j : Nat) (t : Addr) (c : List Nat), gs[j]? = some t → (((subsD nar).take i).filter fun d => decide (loser (widen secs d) cars m = none))[j]? = some c → H18 t = some (.lst (natV c)))
      ⟨ExtN.same (sameNew hG _), F18.tb.ext (sameNew hG _), [], upd_same, rfl, fun j t c e => by simp at e⟩ (fun i H _ ⟨k, _⟩ => SqL.of (ExtN.lst k t1)) ?_ ?_
    · rintro i y Hz H19 hi ⟨e19, T19, gs, g1, g2, g3⟩ ⟨e, hy⟩
      subst e
      obtain ⟨t, ht, rfl⟩ : ∃ t, ts[i]? = some t ∧ y = V.ref t := by
        rw [List.getElem?_map] at hy
        obtain ⟨t, z1, z2⟩ := Option.map_eq_some_iff.mp hy
        exact ⟨t, z1, z2.symm⟩
      rw [List.length_map, t2] at hi
      obtain ⟨cc, hc⟩ : ∃ cc, (subsD nar)[i]? = some cc := ⟨_, List.getElem?_eq_getElem hi⟩
      have F19 := F18.ext e19 T19
      have ht18 := t3' i t cc ht hc
      have ht19 := ExtN.lst e19 ht18
      refine ⟨rfl, ?_⟩
      refine ⟨_, rfl, _, rfl, l, t, secs, cc, rfl, F19.rn, SO, ht19, fun H20 wd s20 rn20 => ?_⟩
      have F20 := F19.same s20
      refine ⟨_, rfl, _, rfl, wd, a, widen secs cc, cars, m, rfl, rn20, F20.ct, widen_ok SO cc, CO, F20.tb, fun H21 e21 T21 => ⟨_, rfl, ?_⟩⟩
      have en : ((subsD nar).take (i + 1)).filter (fun d => decide (loser (widen secs d) cars m = none)) = ((subsD nar).take i).filter (fun d => decide (loser (widen secs d) cars m = none)) ++ if decide (loser (widen secs cc) cars m = none) = true then [cc] else [] := by
        rw [List.take_add_one, hc, List.filter_append]
        by_cases g : loser (widen secs cc) cars m = none <;> simp [g]
      have lb := List.length_filter_le (fun d => decide (loser (widen secs d) cars m = none)) ((subsD nar).take i)
      rw [List.length_take] at lb
      have ed : decide (strO (loser (widen secs cc) cars m) = V.non) = decide (loser (widen secs cc) cars m = none) := by
        cases loser (widen secs cc) cars m <;> rfl
      rw [en, ed]
      generalize ((subsD nar).take i).filter (fun d => decide (loser (widen secs d) cars m = none)) = cs at g2 g3 lb
      have e1921 := (ExtN.same s20).trans e21
      have g21 := ExtN.lst e1921 g1
      cases hg : decide (loser (widen secs cc) cars m = none) with
      | false =>
        refine iteF ⟨e19.trans e1921, T21, gs, g21, ?_, ?_⟩
        · rw [if_neg (by decide), List.append_nil]
          exact g2
        · rw [if_neg (by decide), List.append_nil]
          exact g3
      | true =>
        refine iteT ⟨_, rfl, _, g21, small1000 (by rw [List.length_map]; omega), fun b o e n => ?_, Tabs.keepL T21 fun b o e n => by rw [upd_ne (ne_of e g21 (n _))]; exact e, gs ++ [t], ?_, ?_, fun j u d e1 e2 => ?_⟩
        · rw [upd_ne (ne_of_none e hG)]
          exact e1921 _ _ (e19 _ _ e n) n
        · rw [upd_same, List.map_append]
          rfl
        · rw [if_pos rfl, List.length_append, List.length_append, g2]
          rfl
        · rw [if_pos rfl] at e2
          rcases snoc_get e1 with e1 | ⟨hq, rfl⟩
          · have lt := (List.getElem?_eq_some_iff.mp e1).1
            rw [List.getElem?_append_left (by omega)] at e2
            exact g3 j u d e1 e2
          · rw [List.getElem?_append_right (by omega), hq, g2, Nat.sub_self] at e2
            obtain rfl : cc = d := by simpa using e2
            exact ht18
    rintro H19 ⟨e19, T19, gs, g1, g2, g3⟩
    rw [List.length_map, t2, List.take_length] at g2 g3
    have F19 := F18.ext e19 T19
    have g4 : ∀ (j : Nat) (t : Addr) (c : List Nat), gs[j]? = some t → ((subsD nar).filter fun d => decide (loser (widen secs d) cars m = none))[j]? = some c → H19 t = some (.lst (natV c)) := fun j t c e1 e2 => ExtN.lst e19 (g3 j t c e1 e2)
    clear F18 t1 t2 t3' g3 hG e19 ts T19
    -- sorted
    refine ⟨_, rfl, G, gs, rfl, SqL.of g1, F19.tb, fun t ht => ?_, fun H20 S us e20 T20 hS pm srt => ?_⟩
    · obtain ⟨i, hi⟩ := List.mem_iff_getElem?.mp ht
      obtain ⟨d, hd⟩ : ∃ d, ((subsD nar).filter fun d => decide (loser (widen secs d) cars m = none))[i]? = some d := ⟨_, List.getElem?_eq_getElem (by rw [← g2]; exact (List.getElem?_eq_some_iff.mp hi).1)⟩
      have := c18 d (List.mem_filter.mp (List.mem_of_getElem? hd)).1
      exact ⟨d, g4 i t d hi hd, by omega⟩
    have F20 := F19.ext e20 T20
    have F21 := F20.same (sameNew hS (.lst (us.map V.ref)))
    have S21 : upd H20 S (.lst (us.map V.ref)) S = some (.lst (us.map V.ref)) := upd_same
    have s21 := sameNew hS (.lst (us.map V.ref))
    generalize upd H20 S (.lst (us.map V.ref)) = H21 at F21 S21 s21 ⊢
    -- the fewest
    refine ⟨_, rfl, _, rfl, _, rfl, p, a, secs, cars, m, rfl, F21.rd, F21.ct, SO, CO, F21.tb, m0', m1', h7, fun H22 fl cc e22 T22 hfl fw => ?_⟩
    have fw' := fw
    obtain ⟨u0, ur, rfl, hu0⟩ := sorted_first (H := H20) (ts := gs) fw (by rw [hnar]; exact g2) (by rw [hnar]; exact fun j t c e1 e2 => ExtN.lst e20 (g4 j t c e1 e2)) pm srt
    have F22 := F21.ext e22 T22
    have hu22 := ExtN.lst e22 (s21 _ _ hu0)
    have S22 := ExtN.lst e22 S21
    refine ⟨_, rfl, _, rfl, S, _, ((0 : Nat) : Int), .ref u0, rfl, rfl, SqL.of S22, atI_nat rfl, ?_⟩
    refine ⟨natsD cc, natsD cc, dp_nats hfl, dp_nats hu22, (shp_nats cc).ok (by decide), (shp_nats cc).ok (by decide), _, rfl, ?_⟩
    rw [(shp_nats cc).same]
    refine iteF ?_
    clear F19 F20 F21 S21 s21 e22 T22 hfl fw fw' hu22 S22 hu0 pm srt e20 T20 hS g1 g2 g4 c18 l18 hnar nl7
    have nokL : ∀ (x : Option Str), (strO x = V.non ∨ ∃ z, strO x = V.str z) := fun x => by
      cases x with
      | none => exact .inl rfl
      | some z => exact .inr ⟨z, rfl⟩
    have scalL : ∀ x : Option Str, scal (strO x) (strO x) = true := fun x => by cases x <;> rfl
    -- the first loser
    refine ⟨_, rfl, _, rfl, _, rfl, [.ref p, .ref a, .int m], [], rfl, rfl, Nat.zero_le _, fun t2 ht2 => ?_⟩
    have F23 := F22.same (sameNew ht2 (.tup []))
    refine ⟨p, a, t2, secs, cars, m, [], rfl, upd_same, F23.rd, F23.ct, SO, CO, F23.tb, m0', m1', by show 0 ≤ 1000; decide, fun i hi => (nomatch hi), fun H24 e24 T24 => ?_⟩
    have F24 := F23.ext e24 T24
    refine ⟨_, rfl, _, rfl, _, rfl, l, a, secs, cars, m, rfl, F24.rn, F24.ct, SO, CO, F24.tb, fun H25 e25 T25 => ?_⟩
    have F25 := F24.ext e25 T25
    rw [widen_nil]
    refine ⟨scalL _, _, rfl, ?_⟩
    rw [decide_eq_true rfl]
    refine iteF ?_
    clear F22 F23 F24 ht2 e24 T24 e25 T25
    -- the ticks
    refine ⟨by show 0 ≤ sizeLine; decide, fun y hy => ?_⟩
    have sy := sameNew hy (.lst [])
    have F26 := F25.same sy
    have y26 : upd H25 y (.lst []) y = some (.lst []) := upd_same
    generalize upd H25 y (.lst []) = H26 at F26 y26 sy ⊢
    refine ⟨_, rfl, _, rfl, l, a, secs, cars, rfl, F26.rn, F26.ct, SO, CO, F26.tb, fun H27 tt tk od ld e27 T27 htt tk27 _ _ => ?_⟩
    have F27 := F26.ext e27 T27
    have y27 := ExtN.lst e27 y26
    refine ⟨tt, _, _, _, rfl, rfl, SqT.of htt, rfl, by show 2 ≤ sizeLine; decide, fun tp htp => ⟨tp, _, rfl, SqT.of upd_same, rfl, _, _, rfl, _, _, rfl, rfl, ?_⟩⟩
    have st := sameNew htp (.tup [V.ref y, V.ref tk])
    have F28 := F27.same st
    have y28 := st _ _ y27
    have tk28 := tk27.ext (ExtN.same st)
    generalize upd H27 tp (.tup [V.ref y, V.ref tk]) = H28 at F28 y28 tk28 ⊢
    clear F25 F26 F27 sy st hy htp y26 y27 tk27 e27 T27 htt
    -- the sections, one by one
    obtain ⟨us, u1, u2, u3⟩ := id F28.rn
    have hus : (us.map V.ref).length = secs.length := by rw [List.length_map, u2]
    refine ⟨_, rfl, l, _, rfl, .inl (SqL.of u1), ?_⟩
    rw [hus]
    refine ⟨_, rfl, by omega, by omega, ?_⟩
    rw [Int.toNat_natCast]
    refine for_it walk_range (fun i σ H => ∃ v6 v7 v8 v9 v10 v13 v14 q, σ = [some (.ref sc), some (.ref r), some (.ref p), some (.ref l), some (.ref a), some (.int m), v6, v7, v8, v9, v10, some (.ref q), some (.ref tk), v13, v14, none, none] ∧ ExtN H28 H ∧ Tabs T H ∧ TupsAt H q ((harmL secs cars i).map harmV))
      ⟨_, _, _, _, _, _, _, y, rfl, ExtN.refl _, F28.tb, tups_nil y28⟩ (fun _ _ _ _ _ => True.intro) ?_ ?_
    · rintro i x σ Hz H29 hi ⟨v6', v7', v8', v9', v10', v13', v14', q, rfl, e29, T29, q29⟩ ⟨e, ex⟩
      have ex : x = V.int ((i : Nat) : Int) := by
        rw [ex]
        show V.int (0 + ((i : Nat) : Int)) = _
        rw [Int.zero_add]
      subst e ex
      have F29 := F28.ext e29 T29
      refine ⟨_, rfl, _, rfl, by show 1 ≤ sizeLine; decide, fun x hx => ?_⟩
      have sx := sameNew hx (.lst [V.int ((i : Nat) : Int)])
      have hx1 : upd H29 x (.lst [V.int ((i : Nat) : Int)]) x = some (.lst (natV [i])) := upd_same
      have F30 := F29.same sx
      generalize upd H29 x (.lst [V.int ((i : Nat) : Int)]) = H30 at sx hx1 F30 ⊢
      refine ⟨l, x, secs, [i], rfl, F30.rn, SO, hx1, fun H31 wd s31 rn31 => ?_⟩
      have F31 := F30.same s31
      have SW := widen_ok SO [i]
      refine ⟨_, rfl, _, rfl, _, rfl, _, rfl, [.ref p, .ref a, .int m], [.int ((i : Nat) : Int)], rfl, rfl, by show 1 ≤ sizeLine; decide, fun t2 ht2 => ?_⟩
      have s32 := sameNew ht2 (.tup [.int ((i : Nat) : Int)])
      have F32 := F31.same s32
      refine ⟨p, a, t2, secs, cars, m, [i], rfl, upd_same, F32.rd, F32.ct, SO, CO, F32.tb, m0', m1', by show 1 ≤ 1000; decide, fun j hj => by rw [List.mem_singleton.mp hj]; exact hi, fun H33 e33 T33 => ?_⟩
      have F33 := F32.ext e33 T33
      have rn33 := rn31.ext2 ((ExtN.same s32).trans e33)
      refine ⟨_, rfl, _, rfl, _, rfl, wd, a, widen secs [i], cars, m, rfl, rn33, F33.ct, SW, CO, F33.tb, fun H34 e34 T34 => ?_⟩
      have F34 := F33.ext e34 T34
      have rn34 := rn33.ext2 e34
      refine ⟨scalL _, _, rfl, ?_⟩
      rw [decide_eq_true rfl]
      refine iteF ?_
      refine ⟨_, rfl, _, rfl, wd, a, widen secs [i], cars, rfl, rn34, F34.ct, SW, CO, F34.tb, fun H35 tt to od ld e35 T35 htt to35 _ _ => ?_⟩
      refine ⟨tt, _, _, _, rfl, rfl, SqT.of htt, rfl, ?_⟩
      have eall : ExtN H29 H35 := (ExtN.same sx).trans ((ExtN.same s31).trans ((ExtN.same s32).trans (e33.trans (e34.trans e35))))
      have F35 := F34.ext e35 T35
      have q35 := q29.ext eall
      have e35' := e29.trans eall
      have tk35 := tk28.ext e35'
      clear F29 F30 F31 F32 F33 F34 sx hx hx1 s31 rn31 s32 ht2 e33 T33 rn33 e34 T34 rn34 e35 T35 htt eall q29 e29 T29
      obtain ⟨ts, t1, t2, t3⟩ := id F35.ct
      have hts : (ts.map V.ref).length = cars.length := by rw [List.length_map, t2]
      refine ⟨_, rfl, _, rfl, a, rfl, ⟨_, SqT.of t1⟩, fun D hD => ?_⟩
      refine lc_it walk_tup (fun j H => Same H35 H ∧ TupsAt H D ((harmAt secs cars i j).map harmV)) ⟨sameNew hD _, tups_nil upd_same⟩ (fun j H _ ⟨k, _⟩ => SqT.of (k _ _ t1)) ?_ ?_
      · rintro j y Hz H38 hj ⟨k38, T38⟩ ⟨e, hy⟩
        subst e
        obtain ⟨t, ht, rfl⟩ : ∃ t, ts[j]? = some t ∧ y = V.ref t := by
          rw [List.getElem?_map] at hy
          obtain ⟨t, z1, z2⟩ := Option.map_eq_some_iff.mp hy
          exact ⟨t, z1, z2.symm⟩
        rw [hts] at hj
        obtain ⟨cr, hc⟩ : ∃ cr, cars[j]? = some cr := ⟨_, List.getElem?_eq_getElem hj⟩
        have hcm := List.mem_of_getElem? hc
        have hn : cr.name ∈ names cars := List.mem_map.mpr ⟨cr, hcm, rfl⟩
        have hct := k38 _ _ (t3 j t cr ht hc)
        have hl := harmAt_len secs cars i j
        obtain ⟨ka, da, la, a1, a2, _, a4⟩ := tks_at (to35.ext (ExtN.same k38)) hn
        obtain ⟨kb, db, lb, b1, b2, _, b4⟩ := tks_at (tk35.ext (ExtN.same k38)) hn
        rw [harmAt_succ hc]
        refine ⟨rfl, ?_⟩
        refine ⟨_, rfl, _, rfl, t, _, _, _, rfl, rfl, SqT.of hct, rfl, to, _, rfl, gk a1 a2, _, rfl, da, _, _, _, rfl, rfl, SqL.of a4, atI_last _ _, _, rfl, _, rfl, t, _, _, _, rfl, rfl, SqT.of hct, rfl, tk, _, rfl, gk b1 b2, _, rfl, db, _, _, _, rfl, rfl, SqL.of b4, atI_last _ _, _, _, rfl, rfl, harmP secs cars i cr, rfl, ?_⟩
        cases hh : harmP secs cars i cr with
        | false =>
          refine iteF ⟨k38, ?_⟩
          rw [if_neg (by decide), List.append_nil]
          exact T38
        | true =>
          obtain ⟨ts', z1, z2, z3⟩ := id T38
          refine iteT ⟨_, rfl, _, rfl, t, _, _, _, rfl, rfl, SqT.of hct, rfl, by show 2 ≤ sizeLine; decide, fun x hx => ?_⟩
          have sx := sameNew hx (.tup [V.int ((i : Nat) : Int), V.str cr.name])
          refine ⟨_, sx _ _ z1, small1000 (by rw [List.length_map, z2, List.length_map]; omega), fun b o e => by rw [upd_ne (ne_of_none e hD)]; exact sx _ _ (k38 _ _ e), ?_⟩
          rw [if_pos rfl, List.map_append]
          exact tups_push z1 z2 z3 hx [V.int ((i : Nat) : Int), V.str cr.name]
      · rintro H38 ⟨k38, T38⟩
        rw [hts] at T38
        obtain ⟨xs, ys, x1, x2, x3, x4, x5⟩ := tups_cat (q35.same k38) T38
        have l1 := harmL_len secs cars i
        have l2 := harmAt_len secs cars i cars.length
        have l3 : i * cars.length ≤ 12 * 10 := Nat.mul_le_mul (by omega) h10
        rw [List.length_map] at x3 x4
        refine ⟨q, D, xs, ys, rfl, rfl, x1, x2, Nat.le_of_lt (small1000 (by omega)), fun d hd => ?_⟩
        refine ⟨_, _, _, _, _, _, _, d, rfl, e35'.trans (ExtN.same (k38.trans (sameNew hd _))), (F35.tb.ext k38).ext (sameNew hd _), ?_⟩
        rw [harmL_succ, List.map_append]
        exact x5 d hd
    rintro σ H29 ⟨v6', v7', v8', v9', v10', v13', v14', q, rfl, e29, T29, q29⟩
    have F29 := F28.ext e29 T29
    refine ⟨_, rfl, _, rfl, p, a, secs, cars, rfl, F29.rd, F29.ct, SO, CO, F29.tb, fun H30 hl e30 T30 tt => ?_⟩
    have sh : Shp 2 (harmD (harmL secs cars secs.length)) := shp_harm fun q hq => nok _ (harm_in hq)
    refine ⟨_, rfl, harmD (harmL secs cars secs.length), harmD (harmL secs cars secs.length), dp_harm tt, dp_harm (q29.ext e30), sh.ok (by decide), sh.ok (by decide), ?_⟩
    rw [sh.same]
    exact k H30
end
end Sl

set_option Elab.async false
set_option linter.all false
set_option maxRecDepth 100000
set_option maxHeartbeats 4000000
namespace Sl
open PySem PySem.Spec L2 OwnR LamX
theorem tabS0 {H : Hp} {P : Addr} {q : Str} (h : H P = some (.tbl #[])) : TabS H P q := ⟨#[], h, by first | exact trivial | simp [PySem.W.TriplesOk] | decide, fun pos cv e => by first | cases e | simp [codeAmong] at e⟩
theorem all_mk {l : PySem.W.OpenLaw} {w : World} {K : PySem.W.Frag} {h : Heap} {mg : Str → Option Value} {fa C CR : Addr} (X : K.In h) (G : h.Ns mainGlobals mg) (hfa : mg "law" = some (.ref fa))
    {fin : Addr} {odin anin : Option Addr} {slin : Array (Option Value)} {ocin kVin dcin pmin ctin : Value} {cdin : Value}
    {fnm : Addr} {odnm annm : Option Addr} {slnm : Array (Option Value)} {ocnm kVnm dcnm pmnm ctnm : Value} {cdnm : Value}
    {fic : Addr} {odic anic : Option Addr} {slic : Array (Option Value)} {ocic kVic dcic pmic ctic : Value} {cdic : Value}
    {fcc : Addr} {odcc ancc : Option Addr} {slcc : Array (Option Value)} {occc kVcc dccc pmcc ctcc : Value} {cdcc : Value}
    {ccio Pio : Addr}
    {fio : Addr} {odio anio : Option Addr} {slio : Array (Option Value)} {ocio kVio dcio pmio ctio : Value}
    {ffo : Addr} {odfo anfo : Option Addr} {slfo : Array (Option Value)} {ocfo kVfo dcfo pmfo ctfo : Value} {cdfo : Value}
    {fdv : Addr} {oddv andv : Option Addr} {sldv : Array (Option Value)} {ocdv kVdv dcdv pmdv ctdv : Value} {cddv : Value}
    {fis : Addr} {odis anis : Option Addr} {slis : Array (Option Value)} {ocis kVis dcis pmis ctis : Value} {cdis : Value}
    {fuo : Addr} {oduo anuo : Option Addr} {sluo : Array (Option Value)} {ocuo kVuo dcuo pmuo ctuo : Value} {cduo : Value}
    {fru : Addr} {odru anru : Option Addr} {slru : Array (Option Value)} {ocru kVru dcru pmru ctru : Value} {cdru : Value}
    {ffl : Addr} {odfl anfl : Option Addr} {slfl : Array (Option Value)} {ocfl kVfl dcfl pmfl ctfl : Value} {cdfl : Value}
    {ffw : Addr} {odfw anfw : Option Addr} {slfw : Array (Option Value)} {ocfw kVfw dcfw pmfw ctfw : Value} {cdfw : Value}
    {fhw : Addr} {odhw anhw : Option Addr} {slhw : Array (Option Value)} {ochw kVhw dchw pmhw cthw : Value} {cdhw : Value}
    {fta : Addr} {odta anta : Option Addr} {slta : Array (Option Value)} {octa kVta dcta pmta ctta : Value} {cdta : Value}
    {fut : Addr} {odut anut : Option Addr} {slut : Array (Option Value)} {ocut kVut dcut pmut ctut : Value} {cdut : Value}
    {fse : Addr} {odse anse : Option Addr} {slse : Array (Option Value)} {ocse kVse dcse pmse ctse : Value} {cdse : Value}
    {fca : Addr} {odca anca : Option Addr} {slca : Array (Option Value)} {occa kVca dcca pmca ctca : Value} {cdca : Value}
    {ccdr Pdr : Addr}
    {fdr : Addr} {oddr andr : Option Addr} {sldr : Array (Option Value)} {ocdr kVdr dcdr pmdr ctdr : Value}
    {fdn : Addr} {oddn andn : Option Addr} {sldn : Array (Option Value)} {ocdn kVdn dcdn pmdn ctdn : Value} {cddn : Value}
    {fwd : Addr} {odwd anwd : Option Addr} {slwd : Array (Option Value)} {ocwd kVwd dcwd pmwd ctwd : Value} {cdwd : Value}
    {flo : Addr} {odlo anlo : Option Addr} {sllo : Array (Option Value)} {oclo kVlo dclo pmlo ctlo : Value} {cdlo : Value}
    {ccla Pla : Addr}
    {fla : Addr} {odla anla : Option Addr} {slla : Array (Option Value)} {ocla kVla dcla pmla ctla : Value}
    {fDi : Addr} {odDi anDi : Option Addr} {slDi : Array (Option Value)} {ocDi kVDi dcDi pmDi ctDi : Value} {cdDi : Value}
    {fDc : Addr} {odDc anDc : Option Addr} {slDc : Array (Option Value)} {ocDc kVDc dcDc pmDc ctDc : Value} {cdDc : Value}
    {fDp : Addr} {odDp anDp : Option Addr} {slDp : Array (Option Value)} {ocDp kVDp dcDp pmDp ctDp : Value} {cdDp : Value}
    {Td : Addr} {odT : Option Addr} {ocT : Value} {slT : Array (Option Value)} {nT : Nat}
    {fDa : Addr} {odDa anDa : Option Addr} {slDa : Array (Option Value)} {ocDa kVDa dcDa pmDa ctDa : Value} {cdDa : Value}
    {fDh : Addr} {odDh anDh : Option Addr} {slDh : Array (Option Value)} {ocDh kVDh dcDh pmDh ctDh : Value} {cdDh : Value}
    {fDx : Addr} {odDx anDx : Option Addr} {slDx : Array (Option Value)} {ocDx kVDx dcDx pmDx ctDx : Value} {cdDx : Value}
    {fRi : Addr} {odRi anRi : Option Addr} {slRi : Array (Option Value)} {ocRi kVRi dcRi pmRi ctRi : Value} {cdRi : Value}
    {fRw : Addr} {odRw anRw : Option Addr} {slRw : Array (Option Value)} {ocRw kVRw dcRw pmRw ctRw : Value} {cdRw : Value}
    {pO : Addr} {mc : Value} {rO : List Value}
    {fRo : Addr} {odRo anRo : Option Addr} {slRo : Array (Option Value)} {ocRo kVRo dcRo pmRo ctRo : Value} {cdRo : Value}
    {pRs : Addr} {rRsL : List Value}
    {fRs : Addr} {odRs anRs : Option Addr} {slRs : Array (Option Value)} {ocRs kVRs dcRs pmRs ctRs : Value} {cdRs : Value}
    {t0 t1 t2 t3 t4 t5 t6 : Tok} {lp kp : Addr}
    (aC : PySem.W.nsIn K mainGlobals "Drive" = some (some (.ref C)))
    (aR : PySem.W.nsIn K mainGlobals "Road" = some (some (.ref CR)))
    (ain : PySem.W.nsIn K mainGlobals "is_number" = some (some (.ref fin)))
    (lin : K.lookup fin = some ⟨ocin, odin, .func (PySem.W.fnOf "is_number" "is_number" (defArgs sIsNumber) (defBody sIsNumber) (defScope sIsNumber) .none kVin dcin pmin anin cdin ctin), slin⟩)
    (cin : PySem.W.codeIn K cdin "is_number" = true)
    (kin : PySem.W.keepIn K (.ref fin) = true)
    (anm : PySem.W.nsIn K mainGlobals "is_name" = some (some (.ref fnm)))
    (lnm : K.lookup fnm = some ⟨ocnm, odnm, .func (PySem.W.fnOf "is_name" "is_name" (defArgs sIsName) (defBody sIsName) (defScope sIsName) .none kVnm dcnm pmnm annm cdnm ctnm), slnm⟩)
    (cnm : PySem.W.codeIn K cdnm "is_name" = true)
    (knm : PySem.W.keepIn K (.ref fnm) = true)
    (aic : PySem.W.nsIn K mainGlobals "is_car" = some (some (.ref fic)))
    (lic : K.lookup fic = some ⟨ocic, odic, .func (PySem.W.fnOf "is_car" "is_car" (defArgs sIsCar) (defBody sIsCar) (defScope sIsCar) .none kVic dcic pmic anic cdic ctic), slic⟩)
    (cic : PySem.W.codeIn K cdic "is_car" = true)
    (kic : PySem.W.keepIn K (.ref fic) = true)
    (acc : PySem.W.nsIn K mainGlobals "check_cars" = some (some (.ref fcc)))
    (lcc : K.lookup fcc = some ⟨occc, odcc, .func (PySem.W.fnOf "check_cars" "check_cars" (defArgs sCheckCars) (defBody sCheckCars) (defScope sCheckCars) .none kVcc dccc pmcc ancc cdcc ctcc), slcc⟩)
    (ccc : PySem.W.codeIn K cdcc "check_cars" = true)
    (kcc : PySem.W.keepIn K (.ref fcc) = true)
    (aio : PySem.W.nsIn K mainGlobals "_in_order" = some (some (.ref fio)))
    (lio : K.lookup fio = some ⟨ocio, odio, .func (PySem.W.fnOf "_in_order" "_in_order" (defArgs sInOrder) (defBody sInOrder) (defScope sInOrder) .none kVio dcio pmio anio (.ref ccio) ctio), slio⟩)
    (cio : PySem.W.codeIn K (.ref ccio) "_in_order" = true)
    (kio : PySem.W.keepIn K (.ref fio) = true)
    (hio : PySem.W.codeHdIn K ccio Pio = true)
    (nio : K.lookup Pio = none)
    (afo : PySem.W.nsIn K mainGlobals "_follow" = some (some (.ref ffo)))
    (lfo : K.lookup ffo = some ⟨ocfo, odfo, .func (PySem.W.fnOf "_follow" "_follow" (defArgs sFollow) (defBody sFollow) (defScope sFollow) .none kVfo dcfo pmfo anfo cdfo ctfo), slfo⟩)
    (cfo : PySem.W.codeIn K cdfo "_follow" = true)
    (kfo : PySem.W.keepIn K (.ref ffo) = true)
    (adv : PySem.W.nsIn K mainGlobals "drive_all" = some (some (.ref fdv)))
    (ldv : K.lookup fdv = some ⟨ocdv, oddv, .func (PySem.W.fnOf "drive_all" "drive_all" (defArgs sDriveAll) (defBody sDriveAll) (defScope sDriveAll) .none kVdv dcdv pmdv andv cddv ctdv), sldv⟩)
    (cdv : PySem.W.codeIn K cddv "drive_all" = true)
    (kdv : PySem.W.keepIn K (.ref fdv) = true)
    (ais : PySem.W.nsIn K mainGlobals "_is_section" = some (some (.ref fis)))
    (lis : K.lookup fis = some ⟨ocis, odis, .func (PySem.W.fnOf "_is_section" "_is_section" (defArgs sIsSection) (defBody sIsSection) (defScope sIsSection) .none kVis dcis pmis anis cdis ctis), slis⟩)
    (cis : PySem.W.codeIn K cdis "_is_section" = true)
    (kis : PySem.W.keepIn K (.ref fis) = true)
    (auo : PySem.W.nsIn K mainGlobals "_units_of" = some (some (.ref fuo)))
    (luo : K.lookup fuo = some ⟨ocuo, oduo, .func (PySem.W.fnOf "_units_of" "_units_of" (defArgs sUnitsOf) (defBody sUnitsOf) (defScope sUnitsOf) .none kVuo dcuo pmuo anuo cduo ctuo), sluo⟩)
    (cuo : PySem.W.codeIn K cduo "_units_of" = true)
    (kuo : PySem.W.keepIn K (.ref fuo) = true)
    (aru : PySem.W.nsIn K mainGlobals "_runs" = some (some (.ref fru)))
    (lru : K.lookup fru = some ⟨ocru, odru, .func (PySem.W.fnOf "_runs" "_runs" (defArgs sRuns) (defBody sRuns) (defScope sRuns) .none kVru dcru pmru anru cdru ctru), slru⟩)
    (cru : PySem.W.codeIn K cdru "_runs" = true)
    (kru : PySem.W.keepIn K (.ref fru) = true)
    (afl : PySem.W.nsIn K mainGlobals "first_loser" = some (some (.ref ffl)))
    (lfl : K.lookup ffl = some ⟨ocfl, odfl, .func (PySem.W.fnOf "first_loser" "first_loser" (defArgs sFirstLoser) (defBody sFirstLoser) (defScope sFirstLoser) .none kVfl dcfl pmfl anfl cdfl ctfl), slfl⟩)
    (cfl : PySem.W.codeIn K cdfl "first_loser" = true)
    (kfl : PySem.W.keepIn K (.ref ffl) = true)
    (afw : PySem.W.nsIn K mainGlobals "fewest_widened" = some (some (.ref ffw)))
    (lfw : K.lookup ffw = some ⟨ocfw, odfw, .func (PySem.W.fnOf "fewest_widened" "fewest_widened" (defArgs sFewestWidened) (defBody sFewestWidened) (defScope sFewestWidened) .none kVfw dcfw pmfw anfw cdfw ctfw), slfw⟩)
    (cfw : PySem.W.codeIn K cdfw "fewest_widened" = true)
    (kfw : PySem.W.keepIn K (.ref ffw) = true)
    (ahw : PySem.W.nsIn K mainGlobals "harmful_widenings" = some (some (.ref fhw)))
    (lhw : K.lookup fhw = some ⟨ochw, odhw, .func (PySem.W.fnOf "harmful_widenings" "harmful_widenings" (defArgs sHarmfulWidenings) (defBody sHarmfulWidenings) (defScope sHarmfulWidenings) .none kVhw dchw pmhw anhw cdhw cthw), slhw⟩)
    (chw : PySem.W.codeIn K cdhw "harmful_widenings" = true)
    (khw : PySem.W.keepIn K (.ref fhw) = true)
    (ata : PySem.W.nsIn K mainGlobals "_law_taken" = some (some (.ref fta)))
    (lta : K.lookup fta = some ⟨octa, odta, .func (PySem.W.fnOf "_law_taken" "_law_taken" (defArgs sTaken) (defBody sTaken) (defScope sTaken) .none kVta dcta pmta anta cdta ctta), slta⟩)
    (cta : PySem.W.codeIn K cdta "_law_taken" = true)
    (kta : PySem.W.keepIn K (.ref fta) = true)
    (aut : PySem.W.nsIn K mainGlobals "_law_units" = some (some (.ref fut)))
    (lut : K.lookup fut = some ⟨ocut, odut, .func (PySem.W.fnOf "_law_units" "_law_units" (defArgs sUnits) (defBody sUnits) (defScope sUnits) .none kVut dcut pmut anut cdut ctut), slut⟩)
    (cut : PySem.W.codeIn K cdut "_law_units" = true)
    (kut : PySem.W.keepIn K (.ref fut) = true)
    (ase : PySem.W.nsIn K mainGlobals "_law_sections" = some (some (.ref fse)))
    (lse : K.lookup fse = some ⟨ocse, odse, .func (PySem.W.fnOf "_law_sections" "_law_sections" (defArgs sSections) (defBody sSections) (defScope sSections) .none kVse dcse pmse anse cdse ctse), slse⟩)
    (cse : PySem.W.codeIn K cdse "_law_sections" = true)
    (kse : PySem.W.keepIn K (.ref fse) = true)
    (aca : PySem.W.nsIn K mainGlobals "_law_cars" = some (some (.ref fca)))
    (lca : K.lookup fca = some ⟨occa, odca, .func (PySem.W.fnOf "_law_cars" "_law_cars" (defArgs sCars) (defBody sCars) (defScope sCars) .none kVca dcca pmca anca cdca ctca), slca⟩)
    (cca : PySem.W.codeIn K cdca "_law_cars" = true)
    (kca : PySem.W.keepIn K (.ref fca) = true)
    (adr : PySem.W.nsIn K mainGlobals "_law_driven" = some (some (.ref fdr)))
    (ldr : K.lookup fdr = some ⟨ocdr, oddr, .func (PySem.W.fnOf "_law_driven" "_law_driven" (defArgs sDriven) (defBody sDriven) (defScope sDriven) .none kVdr dcdr pmdr andr (.ref ccdr) ctdr), sldr⟩)
    (cdr : PySem.W.codeIn K (.ref ccdr) "_law_driven" = true)
    (kdr : PySem.W.keepIn K (.ref fdr) = true)
    (hdr : PySem.W.codeHdIn K ccdr Pdr = true)
    (ndr : K.lookup Pdr = none)
    (adn : PySem.W.nsIn K mainGlobals "_law_drawn" = some (some (.ref fdn)))
    (ldn : K.lookup fdn = some ⟨ocdn, oddn, .func (PySem.W.fnOf "_law_drawn" "_law_drawn" (defArgs sDrawn) (defBody sDrawn) (defScope sDrawn) .none kVdn dcdn pmdn andn cddn ctdn), sldn⟩)
    (cdn : PySem.W.codeIn K cddn "_law_drawn" = true)
    (kdn : PySem.W.keepIn K (.ref fdn) = true)
    (awd : PySem.W.nsIn K mainGlobals "_law_widened" = some (some (.ref fwd)))
    (lwd : K.lookup fwd = some ⟨ocwd, odwd, .func (PySem.W.fnOf "_law_widened" "_law_widened" (defArgs sWidened) (defBody sWidened) (defScope sWidened) .none kVwd dcwd pmwd anwd cdwd ctwd), slwd⟩)
    (cwd : PySem.W.codeIn K cdwd "_law_widened" = true)
    (kwd : PySem.W.keepIn K (.ref fwd) = true)
    (alo : PySem.W.nsIn K mainGlobals "_law_loser" = some (some (.ref flo)))
    (llo : K.lookup flo = some ⟨oclo, odlo, .func (PySem.W.fnOf "_law_loser" "_law_loser" (defArgs sLoser) (defBody sLoser) (defScope sLoser) .none kVlo dclo pmlo anlo cdlo ctlo), sllo⟩)
    (clo : PySem.W.codeIn K cdlo "_law_loser" = true)
    (klo : PySem.W.keepIn K (.ref flo) = true)
    (ala : PySem.W.nsIn K mainGlobals "law" = some (some (.ref fla)))
    (lla : K.lookup fla = some ⟨ocla, odla, .func (PySem.W.fnOf "law" "law" (defArgs sLaw) (defBody sLaw) (defScope sLaw) .none kVla dcla pmla anla (.ref ccla) ctla), slla⟩)
    (cla : PySem.W.codeIn K (.ref ccla) "law" = true)
    (kla : PySem.W.keepIn K (.ref fla) = true)
    (hla : PySem.W.codeHdIn K ccla Pla = true)
    (nla : K.lookup Pla = none)
    (aDi : PySem.W.findIn K (.ref C) "__init__" = some (some (.ref fDi)))
    (iDi : PySem.W.isFn K (.ref fDi) = true)
    (lDi : K.lookup fDi = some ⟨ocDi, odDi, .func (PySem.W.fnOf "__init__" "Drive.__init__" (defArgs sDInit) (defBody sDInit) (defScope sDInit) .none kVDi dcDi pmDi anDi cdDi ctDi), slDi⟩)
    (cDi : PySem.W.codeIn K cdDi "Drive.__init__" = true)
    (kDi : PySem.W.keepIn K (.ref fDi) = true)
    (aDc : PySem.W.findIn K (.ref C) "_check_car" = some (some (.ref fDc)))
    (iDc : PySem.W.isFn K (.ref fDc) = true)
    (lDc : K.lookup fDc = some ⟨ocDc, odDc, .func (PySem.W.fnOf "_check_car" "Drive._check_car" (defArgs sDCheckCar) (defBody sDCheckCar) (defScope sDCheckCar) .none kVDc dcDc pmDc anDc cdDc ctDc), slDc⟩)
    (cDc : PySem.W.codeIn K cdDc "Drive._check_car" = true)
    (kDc : PySem.W.keepIn K (.ref fDc) = true)
    (aDp : PySem.W.findIn K (.ref C) "_check_place" = some (some (.ref fDp)))
    (iDp : PySem.W.isFn K (.ref fDp) = true)
    (lDp : K.lookup fDp = some ⟨ocDp, odDp, .func (PySem.W.fnOf "_check_place" "Drive._check_place" (defArgs sDCheckPlace) (defBody sDCheckPlace) (defScope sDCheckPlace) .none kVDp dcDp pmDp anDp cdDp ctDp), slDp⟩)
    (cDp : PySem.W.codeIn K cdDp "Drive._check_place" = true)
    (kDp : PySem.W.keepIn K (.ref fDp) = true)
    (aDa : PySem.W.findIn K (.ref C) "__call__" = some (some (.ref fDa)))
    (iDa : PySem.W.isFn K (.ref fDa) = true)
    (lDa : K.lookup fDa = some ⟨ocDa, odDa, .func (PySem.W.fnOf "__call__" "Drive.__call__" (defArgs sDCall) (defBody sDCall) (defScope sDCall) (.ref Td) kVDa dcDa pmDa anDa cdDa ctDa), slDa⟩)
    (cDa : PySem.W.codeIn K cdDa "Drive.__call__" = true)
    (kDa : PySem.W.keepIn K (.ref fDa) = true)
    (lT : K.lookup Td = some ⟨ocT, odT, .seq #[Value.none] nT, slT⟩)
    (aDh : PySem.W.findIn K (.ref C) "__contains__" = some (some (.ref fDh)))
    (iDh : PySem.W.isFn K (.ref fDh) = true)
    (lDh : K.lookup fDh = some ⟨ocDh, odDh, .func (PySem.W.fnOf "__contains__" "Drive.__contains__" (defArgs sDHas) (defBody sDHas) (defScope sDHas) .none kVDh dcDh pmDh anDh cdDh ctDh), slDh⟩)
    (cDh : PySem.W.codeIn K cdDh "Drive.__contains__" = true)
    (kDh : PySem.W.keepIn K (.ref fDh) = true)
    (aDx : PySem.W.findIn K (.ref C) "losses" = some (some (.ref fDx)))
    (iDx : PySem.W.isFn K (.ref fDx) = true)
    (lDx : K.lookup fDx = some ⟨ocDx, odDx, .func (PySem.W.fnOf "losses" "Drive.losses" (defArgs sDLosses) (defBody sDLosses) (defScope sDLosses) .none kVDx dcDx pmDx anDx cdDx ctDx), slDx⟩)
    (cDx : PySem.W.codeIn K cdDx "Drive.losses" = true)
    (kDx : PySem.W.keepIn K (.ref fDx) = true)
    (aRi : PySem.W.findIn K (.ref CR) "__init__" = some (some (.ref fRi)))
    (iRi : PySem.W.isFn K (.ref fRi) = true)
    (lRi : K.lookup fRi = some ⟨ocRi, odRi, .func (PySem.W.fnOf "__init__" "Road.__init__" (defArgs sRInit) (defBody sRInit) (defScope sRInit) .none kVRi dcRi pmRi anRi cdRi ctRi), slRi⟩)
    (cRi : PySem.W.codeIn K cdRi "Road.__init__" = true)
    (kRi : PySem.W.keepIn K (.ref fRi) = true)
    (aRw : PySem.W.findIn K (.ref CR) "widened" = some (some (.ref fRw)))
    (iRw : PySem.W.isFn K (.ref fRw) = true)
    (lRw : K.lookup fRw = some ⟨ocRw, odRw, .func (PySem.W.fnOf "widened" "Road.widened" (defArgs sRWidened) (defBody sRWidened) (defScope sRWidened) .none kVRw dcRw pmRw anRw cdRw ctRw), slRw⟩)
    (cRw : PySem.W.codeIn K cdRw "Road.widened" = true)
    (kRw : PySem.W.keepIn K (.ref fRw) = true)
    (aRo : PySem.W.findCls K (.ref CR) mc "of_units" = some (.get (.builtin "classmethod.__get__") (.ref pO) .none (.ref CR)))
    (rRo : PySem.W.recIn K pO "classmethod" = some (.ref fRo :: rO))
    (lRo : K.lookup fRo = some ⟨ocRo, odRo, .func (PySem.W.fnOf "of_units" "Road.of_units" (defArgs sROfUnits) (defBody sROfUnits) (defScope sROfUnits) .none kVRo dcRo pmRo anRo cdRo ctRo), slRo⟩)
    (cRo : PySem.W.codeIn K cdRo "Road.of_units" = true)
    (kRo : PySem.W.keepIn K (.ref fRo) = true)
    (fRo' : PySem.W.fnIn K fRo = true)
    (cr1 : PySem.W.readsIn K CR mc = true)
    (cr2 : PySem.W.specialIn K (.ref CR) "__getattribute__" = some (some (.builtin "type.__getattribute__")))
    (aRs : PySem.W.findIn K (.ref CR) "sections" = some (some (.ref pRs)))
    (gRs : PySem.W.specialIn K (.ref pRs) "__get__" = some (some (.builtin "property.__get__")))
    (tRs : PySem.W.takesIn K (.ref pRs) = some true)
    (rRs : PySem.W.recIn K pRs "property" = some (.ref fRs :: rRsL))
    (lRs : K.lookup fRs = some ⟨ocRs, odRs, .func (PySem.W.fnOf "sections" "Road.sections" (defArgs sRSections) (defBody sRSections) (defScope sRSections) .none kVRs dcRs pmRs anRs cdRs ctRs), slRs⟩)
    (cRs : PySem.W.codeIn K cdRs "Road.sections" = true)
    (kRs : PySem.W.keepIn K (.ref fRs) = true)
    (jDa : PySem.W.fnIn K fDa = true)
    (jRw : PySem.W.fnIn K fRw = true)
    (pgC : PySem.W.plainGet K C Str.empty = true)
    (hdC : PySem.W.hasDictIn K C = true)
    (poC : PySem.W.plainOver K C = true)
    (saC : PySem.W.findIn K (.ref C) "__setattr__" = some (some (.builtin "object.__setattr__")))
    (mkC : PySem.W.makesIn K C = true)
    (kcC : PySem.W.keepIn K (.ref C) = true)
    (pgR : PySem.W.plainGet K CR Str.empty = true)
    (hdR : PySem.W.hasDictIn K CR = true)
    (poR : PySem.W.plainOver K CR = true)
    (saR : PySem.W.findIn K (.ref CR) "__setattr__" = some (some (.builtin "object.__setattr__")))
    (mkR : PySem.W.makesIn K CR = true)
    (kcR : PySem.W.keepIn K (.ref CR) = true)
    (nC_sections : PySem.W.findIn K (.ref C) "_sections" = some none)
    (nC_paces : PySem.W.findIn K (.ref C) "_paces" = some none)
    (nC_ticks : PySem.W.findIn K (.ref C) "_ticks" = some none)
    (nC_orders : PySem.W.findIn K (.ref C) "_orders" = some none)
    (nC_leaders : PySem.W.findIn K (.ref C) "_leaders" = some none)
    (nR_sections : PySem.W.findIn K (.ref CR) "_sections" = some none)
    (nR_units : PySem.W.findIn K (.ref CR) "_units" = some none)
    (z_isinstance : PySem.W.nsIn K mainGlobals "isinstance" = some none)
    (z_int : PySem.W.nsIn K mainGlobals "int" = some none)
    (z_bool : PySem.W.nsIn K mainGlobals "bool" = some none)
    (z_str : PySem.W.nsIn K mainGlobals "str" = some none)
    (z_tuple : PySem.W.nsIn K mainGlobals "tuple" = some none)
    (z_len : PySem.W.nsIn K mainGlobals "len" = some none)
    (z_all : PySem.W.nsIn K mainGlobals "all" = some none)
    (z_enumerate : PySem.W.nsIn K mainGlobals "enumerate" = some none)
    (z_sorted : PySem.W.nsIn K mainGlobals "sorted" = some none)
    (z_list : PySem.W.nsIn K mainGlobals "list" = some none)
    (z_range : PySem.W.nsIn K mainGlobals "range" = some none)
    (z_sum : PySem.W.nsIn K mainGlobals "sum" = some none)
    (v0 : PySem.W.nsIn K mainGlobals "MOST_CARS" = some (some (.int 10 t0)))
    (v1 : PySem.W.nsIn K mainGlobals "LONGEST_NAME" = some (some (.int 8 t1)))
    (v2 : PySem.W.nsIn K mainGlobals "LATEST_START" = some (some (.int 1000000 t2)))
    (v3 : PySem.W.nsIn K mainGlobals "SLOWEST_PACE" = some (some (.int 60 t3)))
    (v4 : PySem.W.nsIn K mainGlobals "MOST_SECTIONS" = some (some (.int 12 t4)))
    (v5 : PySem.W.nsIn K mainGlobals "LONGEST_SECTION" = some (some (.int 99 t5)))
    (v6 : PySem.W.nsIn K mainGlobals "GREATEST_LOSS" = some (some (.int 1000000 t6)))
    (aL : PySem.W.nsIn K mainGlobals "LETTERS" = some (some (.ref lp)))
    (aK : PySem.W.nsIn K mainGlobals "KINDS" = some (some (.ref kp)))
    (dlN : KDct K w lp "narrow" (.str "n"))
    (dlW : KDct K w lp "wide" (.str "w"))
    (dkN : KDct K w kp "n" (.str "narrow"))
    (dkW : KDct K w kp "w" (.str "wide"))
    (kM : (kp == sysModules) = false)
    (qwg : PySem.W.specialIn K (.ref fRw) "__get__" = some (some (.builtin "function.__get__")))
    (qwt : PySem.W.takesIn K (.ref fRw) = some false)
    (neP01 : Pio ≠ Pdr)
    (neP02 : Pio ≠ Pla)
    (neP12 : Pdr ≠ Pla)
    (hT : ∀ P ∈ [Pio, Pdr, Pla], h.get? P = some { cls := .none, data := .fields #[] }) : LamX.LawAtS l w K CX0 11 63 "_law_script" mg fa h := by
  have e := hfa.symm.trans (PySem.W.mg_of X G ala)
  cases e
  have M : Mg mg := ⟨PySem.W.mg_none_of X G z_isinstance, PySem.W.mg_none_of X G z_int, PySem.W.mg_none_of X G z_bool, PySem.W.mg_none_of X G z_str, PySem.W.mg_none_of X G z_tuple, PySem.W.mg_none_of X G z_len, PySem.W.mg_none_of X G z_all, PySem.W.mg_none_of X G z_enumerate, PySem.W.mg_none_of X G z_sorted, PySem.W.mg_none_of X G z_list, PySem.W.mg_none_of X G z_range, PySem.W.mg_none_of X G z_sum, ⟨_, PySem.W.mg_of X G v0⟩, ⟨_, PySem.W.mg_of X G v1⟩, ⟨_, PySem.W.mg_of X G v2⟩, ⟨_, PySem.W.mg_of X G v3⟩, ⟨_, PySem.W.mg_of X G v4⟩, ⟨_, PySem.W.mg_of X G v5⟩⟩
  have R : DriveT K mg C := ⟨⟨pgC, hdC, poC, saC⟩, nC_sections, nC_paces, nC_ticks, nC_orders, nC_leaders, PySem.W.mg_of X G aC⟩
  have RR : RoadT K w mg CR lp kp := ⟨⟨pgR, hdR, poR, saR⟩, nR_sections, nR_units, PySem.W.mg_of X G aR, PySem.W.mg_of X G aL, PySem.W.mg_of X G aK, dlN, dlW, dkN, dkW, kM⟩
  have Fin := fun_mk (st := sIsNumber) lin cin kin
  have Bin : Fb K mg "is_number" sIsNumber ["value", "least", "most"] fin _ := ⟨Fin, PySem.W.mg_of X G ain, Fin.binds (ps := ["value", "least", "most"]) fun _ _ _ _ _ _ us hl => match us, hl with | [_, _, _], _ => rfl⟩
  have Fnm := fun_mk (st := sIsName) lnm cnm knm
  have Bnm : Fb K mg "is_name" sIsName ["value"] fnm _ := ⟨Fnm, PySem.W.mg_of X G anm, Fnm.binds (ps := ["value"]) fun _ _ _ _ _ _ us hl => match us, hl with | [_], _ => rfl⟩
  have Fic := fun_mk (st := sIsCar) lic cic kic
  have Bic : Fb K mg "is_car" sIsCar ["value"] fic _ := ⟨Fic, PySem.W.mg_of X G aic, Fic.binds (ps := ["value"]) fun _ _ _ _ _ _ us hl => match us, hl with | [_], _ => rfl⟩
  have Fcc := fun_mk (st := sCheckCars) lcc ccc kcc
  have Bcc : Fb K mg "check_cars" sCheckCars ["cars"] fcc _ := ⟨Fcc, PySem.W.mg_of X G acc, Fcc.binds (ps := ["cars"]) fun _ _ _ _ _ _ us hl => match us, hl with | [_], _ => rfl⟩
  have Bio : FbC K mg "_in_order" sInOrder ["names", "ticks"] fio _ ccio := ⟨⟨⟨_, _, _, _, _, _, _, _, rfl, lio, cio⟩, kio⟩, PySem.W.mg_of X G aio, .all fun us hl => match us, hl with | [_, _], _ => rfl⟩
  have Ffo := fun_mk (st := sFollow) lfo cfo kfo
  have Bfo : Fb K mg "_follow" sFollow ["order", "free"] ffo _ := ⟨Ffo, PySem.W.mg_of X G afo, Ffo.binds (ps := ["order", "free"]) fun _ _ _ _ _ _ us hl => match us, hl with | [_, _], _ => rfl⟩
  have Fdv := fun_mk (st := sDriveAll) ldv cdv kdv
  have Bdv : Fb K mg "drive_all" sDriveAll ["sections", "starts", "paces"] fdv _ := ⟨Fdv, PySem.W.mg_of X G adv, Fdv.binds (ps := ["sections", "starts", "paces"]) fun _ _ _ _ _ _ us hl => match us, hl with | [_, _, _], _ => rfl⟩
  have Fis := fun_mk (st := sIsSection) lis cis kis
  have Bis : Fb K mg "_is_section" sIsSection ["value"] fis _ := ⟨Fis, PySem.W.mg_of X G ais, Fis.binds (ps := ["value"]) fun _ _ _ _ _ _ us hl => match us, hl with | [_], _ => rfl⟩
  have Fuo := fun_mk (st := sUnitsOf) luo cuo kuo
  have Buo : Fb K mg "_units_of" sUnitsOf ["sections"] fuo _ := ⟨Fuo, PySem.W.mg_of X G auo, Fuo.binds (ps := ["sections"]) fun _ _ _ _ _ _ us hl => match us, hl with | [_], _ => rfl⟩
  have Fru := fun_mk (st := sRuns) lru cru kru
  have Bru : Fb K mg "_runs" sRuns ["units"] fru _ := ⟨Fru, PySem.W.mg_of X G aru, Fru.binds (ps := ["units"]) fun _ _ _ _ _ _ us hl => match us, hl with | [_], _ => rfl⟩
  have Ffl := fun_mk (st := sFirstLoser) lfl cfl kfl
  have Ffw := fun_mk (st := sFewestWidened) lfw cfw kfw
  have Bfw : Fb K mg "fewest_widened" sFewestWidened ["road", "cars", "most"] ffw _ := ⟨Ffw, PySem.W.mg_of X G afw, Ffw.binds (ps := ["road", "cars", "most"]) fun _ _ _ _ _ _ us hl => match us, hl with | [_, _, _], _ => rfl⟩
  have Fhw := fun_mk (st := sHarmfulWidenings) lhw chw khw
  have Bhw : Fb K mg "harmful_widenings" sHarmfulWidenings ["road", "cars"] fhw _ := ⟨Fhw, PySem.W.mg_of X G ahw, Fhw.binds (ps := ["road", "cars"]) fun _ _ _ _ _ _ us hl => match us, hl with | [_, _], _ => rfl⟩
  have Fta := fun_mk (st := sTaken) lta cta kta
  have Bta : Fb K mg "_law_taken" sTaken ["_law_row", "_law_many"] fta _ := ⟨Fta, PySem.W.mg_of X G ata, Fta.binds (ps := ["_law_row", "_law_many"]) fun _ _ _ _ _ _ us hl => match us, hl with | [_, _], _ => rfl⟩
  have Fut := fun_mk (st := sUnits) lut cut kut
  have But : Fb K mg "_law_units" sUnits ["_law_row", "_law_most"] fut _ := ⟨Fut, PySem.W.mg_of X G aut, Fut.binds (ps := ["_law_row", "_law_most"]) fun _ _ _ _ _ _ us hl => match us, hl with | [_, _], _ => rfl⟩
  have Fse := fun_mk (st := sSections) lse cse kse
  have Bse : Fb K mg "_law_sections" sSections ["_law_units_here"] fse _ := ⟨Fse, PySem.W.mg_of X G ase, Fse.binds (ps := ["_law_units_here"]) fun _ _ _ _ _ _ us hl => match us, hl with | [_], _ => rfl⟩
  have Fca := fun_mk (st := sCars) lca cca kca
  have Bca : Fb K mg "_law_cars" sCars ["_law_row", "_law_most"] fca _ := ⟨Fca, PySem.W.mg_of X G aca, Fca.binds (ps := ["_law_row", "_law_most"]) fun _ _ _ _ _ _ us hl => match us, hl with | [_, _], _ => rfl⟩
  have Bdr : FbC K mg "_law_driven" sDriven ["_law_sections_here", "_law_cars_here"] fdr _ ccdr := ⟨⟨⟨_, _, _, _, _, _, _, _, rfl, ldr, cdr⟩, kdr⟩, PySem.W.mg_of X G adr, .all fun us hl => match us, hl with | [_, _], _ => rfl⟩
  have Fdn := fun_mk (st := sDrawn) ldn cdn kdn
  have Bdn : Fb K mg "_law_drawn" sDrawn ["_law_row", "_law_sections_here", "_law_cars_here"] fdn _ := ⟨Fdn, PySem.W.mg_of X G adn, Fdn.binds (ps := ["_law_row", "_law_sections_here", "_law_cars_here"]) fun _ _ _ _ _ _ us hl => match us, hl with | [_, _, _], _ => rfl⟩
  have Fwd := fun_mk (st := sWidened) lwd cwd kwd
  have Bwd : Fb K mg "_law_widened" sWidened ["_law_sections_here", "_law_some"] fwd _ := ⟨Fwd, PySem.W.mg_of X G awd, Fwd.binds (ps := ["_law_sections_here", "_law_some"]) fun _ _ _ _ _ _ us hl => match us, hl with | [_, _], _ => rfl⟩
  have Flo := fun_mk (st := sLoser) llo clo klo
  have Blo : Fb K mg "_law_loser" sLoser ["_law_sections_here", "_law_cars_here", "_law_most"] flo _ := ⟨Flo, PySem.W.mg_of X G alo, Flo.binds (ps := ["_law_sections_here", "_law_cars_here", "_law_most"]) fun _ _ _ _ _ _ us hl => match us, hl with | [_, _, _], _ => rfl⟩
  have Fla : FunC K "law" "law" sLaw _ _ ccla := ⟨⟨_, _, _, _, _, _, _, _, rfl, lla, cla⟩, kla⟩
  have FDi := fun_mk (st := sDInit) lDi cDi kDi
  have bDi := FDi.binds (ps := ["self", "road", "cars"]) fun _ _ _ _ _ _ us hl => match us, hl with | [_, _, _], _ => rfl
  have FDc := fun_mk (st := sDCheckCar) lDc cDc kDc
  have bDc := FDc.binds (ps := ["self", "name"]) fun _ _ _ _ _ _ us hl => match us, hl with | [_, _], _ => rfl
  have FDp := fun_mk (st := sDCheckPlace) lDp cDp kDp
  have bDp := FDp.binds (ps := ["self", "place"]) fun _ _ _ _ _ _ us hl => match us, hl with | [_, _], _ => rfl
  have FDa : FunD K "__call__" "Drive.__call__" (defArgs sDCall) (defBody sDCall) (defScope sDCall) [.non] [] fDa _ := ⟨⟨_, _, _, _, _, _, _, _, _, _, rfl, lDa, cDa, .inr ⟨by simp, Td, _, [Value.none], nT, rfl, lT, rfl, .cons rfl .nil⟩, .inl rfl⟩, kDa⟩
  obtain ⟨ds0, v0, bDa0⟩ := FDa.binds1 (ps := ["self", "name", "place"]) 3 1 (by simp) rfl (fun T kV doc pm an cdv ct us its hl hi => match us, hl, its, hi with | [_, _, _], _, [_], _ => ⟨_, rfl, rfl⟩)
  have e0 : ds0 = [] := by cases v0; rfl
  subst e0
  obtain ⟨dsDa, vDa, bDa1⟩ := FDa.binds1 (ps := ["self", "name", "place"]) 2 0 (by simp) rfl (fun T kV doc pm an cdv ct us its hl hi => match us, hl, its, hi with | [_, _], _, [_], _ => ⟨_, rfl, rfl⟩)
  have FDh := fun_mk (st := sDHas) lDh cDh kDh
  have bDh := FDh.binds (ps := ["self", "x"]) fun _ _ _ _ _ _ us hl => match us, hl with | [_, _], _ => rfl
  have FDx := fun_mk (st := sDLosses) lDx cDx kDx
  have bDx := FDx.binds (ps := ["self"]) fun _ _ _ _ _ _ us hl => match us, hl with | [_], _ => rfl
  have FRi := fun_mk (st := sRInit) lRi cRi kRi
  have FRw := fun_mk (st := sRWidened) lRw cRw kRw
  have FRo := fun_mk (st := sROfUnits) lRo cRo kRo
  have bRo := FRo.binds (ps := ["cls", "units"]) fun _ _ _ _ _ _ us hl => match us, hl with | [_, _], _ => rfl
  have FRs := fun_mk (st := sRSections) lRs cRs kRs
  have bRs := FRs.binds (ps := ["self"]) fun _ _ _ _ _ _ us hl => match us, hl with | [_], _ => rfl
  have MDi : Fm K C "__init__" "Drive.__init__" sDInit ["self", "road", "cars"] fDi _ := ⟨FDi, ⟨aDi, iDi, kDi⟩, bDi⟩
  have MDc : Fm K C "_check_car" "Drive._check_car" sDCheckCar ["self", "name"] fDc _ := ⟨FDc, ⟨aDc, iDc, kDc⟩, bDc⟩
  have MDp : Fm K C "_check_place" "Drive._check_place" sDCheckPlace ["self", "place"] fDp _ := ⟨FDp, ⟨aDp, iDp, kDp⟩, bDp⟩
  have MDx : Fm K C "losses" "Drive.losses" sDLosses ["self"] fDx _ := ⟨FDx, ⟨aDx, iDx, kDx⟩, bDx⟩
  let T : List (Addr × Str) := [(Pio, qInOrder), (Pdr, qDriven), (Pla, qLaw)]
  have mio : (Pio, qInOrder) ∈ T := by simp [T]
  have mdr : (Pdr, qDriven) ∈ T := by simp [T]
  have mla : (Pla, qLaw) ∈ T := by simp [T]
  have uio : ∀ p ∈ T, p.1 = Pio → p.2 = qInOrder := fun p hp e => by
    rcases List.mem_cons.mp hp with z | hp
    · rw [z]
    · skip
      rcases List.mem_cons.mp hp with z | hp
      · rw [z] at e
        exact absurd e.symm neP01
      · skip
        rw [(List.mem_singleton.mp hp)] at e
        exact absurd e.symm neP02
  have udr : ∀ p ∈ T, p.1 = Pdr → p.2 = qDriven := fun p hp e => by
    rcases List.mem_cons.mp hp with z | hp
    · rw [z] at e
      exact absurd e neP01
    · skip
      rcases List.mem_cons.mp hp with z | hp
      · rw [z]
      · skip
        rw [(List.mem_singleton.mp hp)] at e
        exact absurd e.symm neP12
  have ula : ∀ p ∈ T, p.1 = Pla → p.2 = qLaw := fun p hp e => by
    rcases List.mem_cons.mp hp with z | hp
    · rw [z] at e
      exact absurd e neP02
    · skip
      rcases List.mem_cons.mp hp with z | hp
      · rw [z] at e
        exact absurd e neP12
      · skip
        rw [(List.mem_singleton.mp hp)]
  have PORs : PropOf K CR "sections" pRs fRs := ⟨aRs, gRs, tRs, _, rRs⟩
  have MI : Mk K C fDi := ⟨mkC, aDi, iDi, kcC⟩
  have MR : Mk K CR fRi := ⟨mkR, aRi, iRi, kcR⟩
  have Cio : PySem.W.CodeHd h ccio Pio := PySem.W.codeHd_of_K X hio
  have Cdr : PySem.W.CodeHd h ccdr Pdr := PySem.W.codeHd_of_K X hdr
  have Cla : PySem.W.CodeHd h ccla Pla := PySem.W.codeHd_of_K X hla
  refine ⟨PySem.W.fnOf "law" "law" (defArgs sLaw) (defBody sLaw) (defScope sLaw) .none kVla dcla pmla anla (.ref ccla) ctla, [(ccio, Pio), (ccdr, Pdr), (ccla, Pla)], spLaw K T, fun p hp => hT p.2 ?_, fun p hp => ?_, fun p hp => ?_, fun s v => .of_eq rfl, fun H a ns _ _ hH hS => ⟨a, ns, rfl, hS, fun p hp => ?_, fun _ => rfl⟩, fun base hK hNs hTB => ?_⟩
  · skip
    rcases List.mem_cons.mp hp with z | hp
    · rw [z]; simp
    · skip
      rcases List.mem_cons.mp hp with z | hp
      · rw [z]; simp
      · skip
        rw [(List.mem_singleton.mp hp)]; simp
  · skip
    rcases List.mem_cons.mp hp with z | hp
    · rw [z]; exact nio
    · skip
      rcases List.mem_cons.mp hp with z | hp
      · rw [z]; exact ndr
      · skip
        rw [(List.mem_singleton.mp hp)]; exact nla
  · skip
    rcases List.mem_cons.mp hp with z | hp
    · rw [z]; exact Cio
    · skip
      rcases List.mem_cons.mp hp with z | hp
      · rw [z]; exact Cdr
      · skip
        rw [(List.mem_singleton.mp hp)]; exact Cla
  · skip
    rcases List.mem_cons.mp hp with z | hp
    · rw [z]; exact tabS0 (hH (ccio, Pio) (by simp))
    · skip
      rcases List.mem_cons.mp hp with z | hp
      · rw [z]; exact tabS0 (hH (ccdr, Pdr) (by simp))
      · skip
        rw [(List.mem_singleton.mp hp)]; exact tabS0 (hH (ccla, Pla) (by simp))
  have TBio : TabB base mg ccio Pio := hTB (ccio, Pio) (by simp)
  have TBdr : TabB base mg ccdr Pdr := hTB (ccdr, Pdr) (by simp)
  have TBla : TabB base mg ccla Pla := hTB (ccla, Pla) (by simp)
  have Gin := ok_isNumber (P := l.prog) (w := w) (base := base) Fin M
  have Gnm := ok_isName (P := l.prog) (w := w) (base := base) Fnm M
  have Gic := ok_isCar (P := l.prog) (w := w) (base := base) Bic M Bnm Bin Gnm Gin
  have Gcc := ok_checkCars (P := l.prog) (w := w) (base := base) Bcc M Bic Gic
  have Gio := ok_inOrder (P := l.prog) (w := w) (base := base) Bio M TBio mio uio
  have Gfo := ok_follow (P := l.prog) (w := w) (base := base) Bfo
  have Gis := ok_isSection (P := l.prog) (w := w) (base := base) Bis M Bin Gin
  have Gru := ok_runs (P := l.prog) (w := w) (base := base) Bru RR
  have Guo := ok_unitsOf (P := l.prog) (w := w) (base := base) Buo RR
  have GRi := ok_rInit (P := l.prog) (w := w) (base := base) FRi M RR Bis Gis Buo Guo
  have GRo := ok_ofUnits (P := l.prog) (w := w) (base := base) FRo M RR MR Bru Gru GRi
  have GRs := ok_rSections (P := l.prog) (w := w) (base := base) FRs RR
  have Gdv := ok_driveAll (P := l.prog) (w := w) (base := base) (Pt:=Pio) Fdv M Bio Bfo Gio Gfo
  have GDi := ok_dInit (P := l.prog) (w := w) (base := base) MDi M R RR Bcc Bdv PORs bRs Gcc Gdv GRs
  have GDh := ok_has (P := l.prog) (w := w) (base := base) FDh M R
  have GDc := ok_checkCar (P := l.prog) (w := w) (base := base) MDc aDh iDh bDh GDh
  have GDp := ok_checkPlace (P := l.prog) (w := w) (base := base) MDp M R Bin Gin
  have GDa := ok_callD (P := l.prog) (w := w) (base := base) FDa M R MDc GDc MDp GDp
  have GDx := ok_losses (P := l.prog) (w := w) (base := base) FDx M R
  have GRw := ok_widened (P := l.prog) (w := w) (base := base) FRw M RR MR GRi Bin Gin
  have I63 : Inf63 l.prog w K mg base CR C T := ⟨M, R, ⟨_, PySem.W.mg_of X G v6⟩, ⟨_, _, MI, bDi, GDi⟩, ⟨_, _, _, ⟨aDa, iDa, jDa⟩, bDa1, vDa, GDa⟩, ⟨_, _, MDx, GDx⟩, ⟨_, _, Bcc, Gcc⟩, ⟨_, _, Bin, Gin⟩, ⟨_, ⟨⟨aRw, iRw, kRw⟩, qwg, qwt, by decide +kernel, jRw⟩, GRw⟩⟩
  have Gfl := ok_loser (P := l.prog) (w := w) (base := base) Ffl I63 RR
  have Gfw := ok_few (P := l.prog) (w := w) (base := base) Ffw M RR PORs bRs GRs (PySem.W.mg_of X G afl) Ffl Gfl
  have Ghw := ok_harm (P := l.prog) (w := w) (base := base) Fhw I63 RR PORs bRs GRs ⟨aRw, iRw, kRw⟩ GRw
  have Gta := ok_taken (P := l.prog) (w := w) (base := base) Fta M
  have Gut := ok_units (P := l.prog) (w := w) (base := base) Fut M Bta Gta
  have Gse := ok_sections (P := l.prog) (w := w) (base := base) Fse M
  have Gca := ok_cars (P := l.prog) (w := w) (base := base) Fca M Bta Gta
  have Gdr := ok_driven (P := l.prog) (w := w) (base := base) Bdr M TBdr mdr udr
  have Gdn := ok_drawn (P := l.prog) (w := w) (base := base) Fdn M RR But Gut Bse Gse Bca Gca ⟨cr1, cr2⟩ ⟨aRo, ⟨_, rRo⟩, fRo'⟩ bRo GRo
  have Gwd := ok_lw (P := l.prog) (w := w) (base := base) Fwd M
  have Glo := ok_ll (P := l.prog) (w := w) (base := base) Flo M ⟨_, _, _, Bdr, Gdr⟩
  exact ok_law (C := C) Fla TBla mla ula ⟨M, ⟨_, _, Bta, Gta⟩, ⟨_, _, Bdn, Gdn⟩, ⟨_, _, _, Bdr, Gdr⟩, ⟨_, _, Bwd, Gwd⟩, ⟨_, _, Blo, Glo⟩, ⟨_, _, Bfw, Gfw⟩, ⟨_, PySem.W.mg_of X G afl, kfl, Gfl⟩, ⟨_, _, Bhw, Ghw.mono (by decide)⟩⟩
end Sl

open PySem PySem.W PyProof.Rows
set_option maxRecDepth 100000 in
set_option maxHeartbeats 0 in
theorem PySem.Challenge.cw_slowleaders_k63_whole_wide_enough_by_all_holds : PySem.Challenge.rw_slowleaders_k63_whole_wide_enough_by_all.Holds := by
  w_on; o_law; k_head; (case hw => w_witness2)
  k_fill
  refine LamX.walk_ofTs (l := PySem.Challenge.rw_slowleaders_k63_whole_wide_enough_by_all) (n := 63) (k := 11) (x := "_law_script") (CX := fun _ => L2.CX0) rfl (by decide) rfl ⟨rfl, by decide, by decide⟩ (fun w h Y => PySem.W.km_in_of Y) ?F (fun _ _ _ _ _ z => z)
  case F =>
    intro w mg fa h Y KX G hmg
    have hT8 := km_tabs_of Y
    refine' Sl.all_mk (Pio := 150) (Pdr := 439) (Pla := 461) (mc := PySem.Value.type "type") KX G hmg ?aC ?aR ?ain ?lin ?cin ?kin ?anm ?lnm ?cnm ?knm ?aic ?lic ?cic ?kic ?acc ?lcc ?ccc ?kcc ?aio ?lio ?cio ?kio ?hio ?nio ?afo ?lfo ?cfo ?kfo ?adv ?ldv ?cdv ?kdv ?ais ?lis ?cis ?kis ?auo ?luo ?cuo ?kuo ?aru ?lru ?cru ?kru ?afl ?lfl ?cfl ?kfl ?afw ?lfw ?cfw ?kfw ?ahw ?lhw ?chw ?khw ?ata ?lta ?cta ?kta ?aut ?lut ?cut ?kut ?ase ?lse ?cse ?kse ?aca ?lca ?cca ?kca ?adr ?ldr ?cdr ?kdr ?hdr ?ndr ?adn ?ldn ?cdn ?kdn ?awd ?lwd ?cwd ?kwd ?alo ?llo ?clo ?klo ?ala ?lla ?cla ?kla ?hla ?nla ?aDi ?iDi ?lDi ?cDi ?kDi ?aDc ?iDc ?lDc ?cDc ?kDc ?aDp ?iDp ?lDp ?cDp ?kDp ?aDa ?iDa ?lDa ?cDa ?kDa ?lT ?aDh ?iDh ?lDh ?cDh ?kDh ?aDx ?iDx ?lDx ?cDx ?kDx ?aRi ?iRi ?lRi ?cRi ?kRi ?aRw ?iRw ?lRw ?cRw ?kRw ?aRo ?rRo ?lRo ?cRo ?kRo ?fRo' ?cr1 ?cr2 ?aRs ?gRs ?tRs ?rRs ?lRs ?cRs ?kRs ?jDa ?jRw ?pgC ?hdC ?poC ?saC ?mkC ?kcC ?pgR ?hdR ?poR ?saR ?mkR ?kcR ?nC_sections ?nC_paces ?nC_ticks ?nC_orders ?nC_leaders ?nR_sections ?nR_units ?z_isinstance ?z_int ?z_bool ?z_str ?z_tuple ?z_len ?z_all ?z_enumerate ?z_sorted ?z_list ?z_range ?z_sum ?v0 ?v1 ?v2 ?v3 ?v4 ?v5 ?v6 ?aL ?aK ?dlN ?dlW ?dkN ?dkW ?kM ?qwg ?qwt ?neP01 ?neP02 ?neP12 ?hT
    (case aC => k_is)
    (case aR => k_is)
    (case ain => k_is)
    (case lin => k_is)
    (case cin => k_is)
    (case kin => k_is)
    (case anm => k_is)
    (case lnm => k_is)
    (case cnm => k_is)
    (case knm => k_is)
    (case aic => k_is)
    (case lic => k_is)
    (case cic => k_is)
    (case kic => k_is)
    (case acc => k_is)
    (case lcc => k_is)
    (case ccc => k_is)
    (case kcc => k_is)
    (case aio => k_is)
    (case lio => k_is)
    (case cio => k_is)
    (case kio => k_is)
    (case hio => first | kernel_rfl | k_is)
    (case nio => first | kernel_rfl | k_is)
    (case afo => k_is)
    (case lfo => k_is)
    (case cfo => k_is)
    (case kfo => k_is)
    (case adv => k_is)
    (case ldv => k_is)
    (case cdv => k_is)
    (case kdv => k_is)
    (case ais => k_is)
    (case lis => k_is)
    (case cis => k_is)
    (case kis => k_is)
    (case auo => k_is)
    (case luo => k_is)
    (case cuo => k_is)
    (case kuo => k_is)
    (case aru => k_is)
    (case lru => k_is)
    (case cru => k_is)
    (case kru => k_is)
    (case afl => k_is)
    (case lfl => k_is)
    (case cfl => k_is)
    (case kfl => k_is)
    (case afw => k_is)
    (case lfw => k_is)
    (case cfw => k_is)
    (case kfw => k_is)
    (case ahw => k_is)
    (case lhw => k_is)
    (case chw => k_is)
    (case khw => k_is)
    (case ata => k_is)
    (case lta => k_is)
    (case cta => k_is)
    (case kta => k_is)
    (case aut => k_is)
    (case lut => k_is)
    (case cut => k_is)
    (case kut => k_is)
    (case ase => k_is)
    (case lse => k_is)
    (case cse => k_is)
    (case kse => k_is)
    (case aca => k_is)
    (case lca => k_is)
    (case cca => k_is)
    (case kca => k_is)
    (case adr => k_is)
    (case ldr => k_is)
    (case cdr => k_is)
    (case kdr => k_is)
    (case hdr => first | kernel_rfl | k_is)
    (case ndr => first | kernel_rfl | k_is)
    (case adn => k_is)
    (case ldn => k_is)
    (case cdn => k_is)
    (case kdn => k_is)
    (case awd => k_is)
    (case lwd => k_is)
    (case cwd => k_is)
    (case kwd => k_is)
    (case alo => k_is)
    (case llo => k_is)
    (case clo => k_is)
    (case klo => k_is)
    (case ala => k_is)
    (case lla => k_is)
    (case cla => k_is)
    (case kla => k_is)
    (case hla => first | kernel_rfl | k_is)
    (case nla => first | kernel_rfl | k_is)
    (case aDi => k_is)
    (case iDi => k_is)
    (case lDi => k_is)
    (case cDi => k_is)
    (case kDi => k_is)
    (case aDc => k_is)
    (case iDc => k_is)
    (case lDc => k_is)
    (case cDc => k_is)
    (case kDc => k_is)
    (case aDp => k_is)
    (case iDp => k_is)
    (case lDp => k_is)
    (case cDp => k_is)
    (case kDp => k_is)
    (case aDa => k_is)
    (case iDa => k_is)
    (case lDa => k_is)
    (case cDa => k_is)
    (case kDa => k_is)
    (case lT => k_is)
    (case aDh => k_is)
    (case iDh => k_is)
    (case lDh => k_is)
    (case cDh => k_is)
    (case kDh => k_is)
    (case aDx => k_is)
    (case iDx => k_is)
    (case lDx => k_is)
    (case cDx => k_is)
    (case kDx => k_is)
    (case aRi => k_is)
    (case iRi => k_is)
    (case lRi => k_is)
    (case cRi => k_is)
    (case kRi => k_is)
    (case aRw => k_is)
    (case iRw => k_is)
    (case lRw => k_is)
    (case cRw => k_is)
    (case kRw => k_is)
    (case aRo => k_is)
    (case rRo => k_is)
    (case lRo => k_is)
    (case cRo => k_is)
    (case kRo => k_is)
    (case fRo' => k_is)
    (case cr1 => k_is)
    (case cr2 => k_is)
    (case aRs => k_is)
    (case gRs => k_is)
    (case tRs => k_is)
    (case rRs => k_is)
    (case lRs => k_is)
    (case cRs => k_is)
    (case kRs => k_is)
    (case jDa => k_is)
    (case jRw => k_is)
    (case pgC => k_is)
    (case hdC => k_is)
    (case poC => k_is)
    (case saC => k_is)
    (case mkC => k_is)
    (case kcC => k_is)
    (case pgR => k_is)
    (case hdR => k_is)
    (case poR => k_is)
    (case saR => k_is)
    (case mkR => k_is)
    (case kcR => k_is)
    (case nC_sections => k_is)
    (case nC_paces => k_is)
    (case nC_ticks => k_is)
    (case nC_orders => k_is)
    (case nC_leaders => k_is)
    (case nR_sections => k_is)
    (case nR_units => k_is)
    (case z_isinstance => k_is)
    (case z_int => k_is)
    (case z_bool => k_is)
    (case z_str => k_is)
    (case z_tuple => k_is)
    (case z_len => k_is)
    (case z_all => k_is)
    (case z_enumerate => k_is)
    (case z_sorted => k_is)
    (case z_list => k_is)
    (case z_range => k_is)
    (case z_sum => k_is)
    (case v0 => k_is)
    (case v1 => k_is)
    (case v2 => k_is)
    (case v3 => k_is)
    (case v4 => k_is)
    (case v5 => k_is)
    (case v6 => k_is)
    (case aL => k_is)
    (case aK => k_is)
    (case dlN => exact ⟨_, _, _, by k_is, by (first | exact ⟨⟨_, _, rfl, rfl⟩, ⟨_, _, rfl, rfl⟩, trivial⟩ | (constructor; exact ⟨_, _, rfl, rfl⟩; constructor; exact ⟨_, _, rfl, rfl⟩; trivial)), by k_is, ⟨_, rfl⟩⟩)
    (case dlW => exact ⟨_, _, _, by k_is, by (first | exact ⟨⟨_, _, rfl, rfl⟩, ⟨_, _, rfl, rfl⟩, trivial⟩ | (constructor; exact ⟨_, _, rfl, rfl⟩; constructor; exact ⟨_, _, rfl, rfl⟩; trivial)), by k_is, ⟨_, rfl⟩⟩)
    (case dkN => exact ⟨_, _, _, by k_is, by (first | exact ⟨⟨_, _, rfl, rfl⟩, ⟨_, _, rfl, rfl⟩, trivial⟩ | (constructor; exact ⟨_, _, rfl, rfl⟩; constructor; exact ⟨_, _, rfl, rfl⟩; trivial)), by k_is, ⟨_, rfl⟩⟩)
    (case dkW => exact ⟨_, _, _, by k_is, by (first | exact ⟨⟨_, _, rfl, rfl⟩, ⟨_, _, rfl, rfl⟩, trivial⟩ | (constructor; exact ⟨_, _, rfl, rfl⟩; constructor; exact ⟨_, _, rfl, rfl⟩; trivial)), by k_is, ⟨_, rfl⟩⟩)
    (case kM => decide)
    (case qwg => k_is)
    (case qwt => k_is)
    (case neP01 => decide)
    (case neP02 => decide)
    (case neP12 => decide)
    (case hT => intro P hP; exact hT8 P (by rcases List.mem_cons.mp hP with z | hP; (rw [z]; k_mem); (rcases List.mem_cons.mp hP with z | hP; (rw [z]; k_mem); (rw [List.mem_singleton.mp hP]; k_mem))))
