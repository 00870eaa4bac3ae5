import PyProof.Rows.All
import Wide.All
import OpenK.AllK
import Wide.FinOn
import HandS.ForMost
import HandS.IsInst
import HandS.DictComp
import HandS.Walk
import HandS.Wide
import HandS.EndTab
import KE.KSortKeySt
import KE.KLam
import PyProof.TupleOfSeq
import HandS.SortKw
import HandS.Lambda
import HandS.Nested
import OpenK.KMeth
import OpenK.KOps
import HandS.Star
import HandS.SlotsOwn
import HandS.ClsMeth
import HandS.Property
import HandS.More
import KE.GoesMore
import KE.GoesEnum
import PyProof.EnumMake
import PyProof.StrOps2
import HandS.NoneIn
import HandS.Conv
import HandS.Defaults
import HandS.WordsDict
import PyProof.GenComp
import HandS.GenBody
import HandS.GenYield
import HandS.GenList
import HandS.ForDict
import HandS.Words
import HandS.MapSum
import HandS.Small
import HandS.Style
import HandS.Iter
import PyProof.EqAt
import PyProof.EqKinds
import PyProof.TupleCall
import KE.KDflt
import HandS.Base
import HandS.Call
import HandS.List
import HandS.Comp
import HandS.Text
import HandS.Exc
import HandS.Codes
import HandS.TryOnly
import PyProof.CodeObj
import HandS.ExcIs
import HandS.ExcField
import HandS.ExcInit
import HandS.WordsExc
import HandS.SetFor
import KE.KExcIs
import HandS.TupAny
import HandS.IterVal
import HandS.Dict
import HandS.DeepEq
import KE.KEqDict
import PyProof.NeKinds
import KE.KNestM
import PySem.Challenge.RW_slowleaders_k66_whole_all_undone_and_don
/-! A stable order by int keys: the one list that is ordered and keeps the rows of equal keys. -/
namespace OwnR
def ins {α : Type} (p : Int × α) : List (Int × α) → List (Int × α)
  | [] => [p]
  | q :: r => if p.1 ≤ q.1 then p :: q :: r else q :: ins p r
def isort {α : Type} : List (Int × α) → List (Int × α)
  | [] => []
  | p :: r => ins p (isort r)
section
variable {α β : Type}
theorem ins_perm (p : Int × α) : ∀ l : List (Int × α), (ins p l).Perm (p :: l)
  | [] => List.Perm.refl _
  | q :: r => by
    unfold ins
    split
    · exact List.Perm.refl _
    · exact ((ins_perm p r).cons q).trans (List.Perm.swap p q r)
theorem isort_perm : ∀ l : List (Int × α), (isort l).Perm l
  | [] => List.Perm.refl _
  | p :: r => (ins_perm p _).trans ((isort_perm r).cons p)
theorem ins_up (p : Int × α) : ∀ l : List (Int × α), l.Pairwise (fun a b => a.1 ≤ b.1) → (ins p l).Pairwise (fun a b => a.1 ≤ b.1)
  | [], _ => by simp [ins]
  | q :: r, h => by
    unfold ins
    have h1 := List.pairwise_cons.mp h
    split
    · rename_i hpq
      refine List.pairwise_cons.mpr ⟨fun b hb => ?_, h⟩
      rcases List.mem_cons.mp hb with rfl | hb
      · exact hpq
      · exact Int.le_trans hpq (h1.1 b hb)
    · rename_i hpq
      refine List.pairwise_cons.mpr ⟨fun b hb => ?_, ins_up p r h1.2⟩
      rcases List.mem_cons.mp ((ins_perm p r).mem_iff.mp hb) with rfl | hb
      · omega
      · exact h1.1 b hb
theorem isort_up : ∀ l : List (Int × α), (isort l).Pairwise (fun a b => a.1 ≤ b.1)
  | [] => List.Pairwise.nil
  | p :: r => ins_up p _ (isort_up r)
theorem ins_row (p : Int × α) (z : Int) : ∀ l : List (Int × α), (ins p l).filter (fun a => a.1 == z) = (p :: l).filter (fun a => a.1 == z)
  | [] => rfl
  | q :: r => by
    unfold ins
    split
    · rfl
    · rename_i hpq
      rw [List.filter_cons, ins_row p z r]
      by_cases h1 : p.1 = z
      · have h2 : (q.1 == z) = false := by simp; omega
        simp [List.filter_cons, h1, h2]
      · have h3 : (p.1 == z) = false := by simp [h1]
        simp [List.filter_cons, h3]
theorem isort_row (z : Int) : ∀ l : List (Int × α), (isort l).filter (fun a => a.1 == z) = l.filter (fun a => a.1 == z)
  | [] => rfl
  | p :: r => by
    unfold isort
    rw [ins_row, List.filter_cons, List.filter_cons, isort_row z r]
theorem eq_of_rows : ∀ l k : List (Int × α), l.Pairwise (fun a b => a.1 ≤ b.1) → k.Pairwise (fun a b => a.1 ≤ b.1) → (∀ z, l.filter (fun a => a.1 == z) = k.filter (fun a => a.1 == z)) → l = k
  | [], [], _, _, _ => rfl
  | [], b :: k, _, _, h => by
    have := h b.1
    simp at this
  | a :: l, [], _, _, h => by
    have := h a.1
    simp at this
  | a :: l, b :: k, hl, hk, h => by
    have l1 := List.pairwise_cons.mp hl
    have k1 := List.pairwise_cons.mp hk
    have hab : a.1 = b.1 := by
      rcases Int.lt_trichotomy a.1 b.1 with c | c | c
      · exfalso
        have e := h a.1
        rw [List.filter_cons, if_pos (by simp)] at e
        have m : a ∈ (b :: k).filter (fun x => x.1 == a.1) := by rw [← e]; exact List.mem_cons_self
        have m1 := List.mem_filter.mp m
        rcases List.mem_cons.mp m1.1 with e1 | e1
        · rw [e1] at c; omega
        · have := k1.1 a e1; omega
      · exact c
      · exfalso
        have e := h b.1
        have m : b ∈ (a :: l).filter (fun x => x.1 == b.1) := by
          rw [e, List.filter_cons, if_pos (by simp)]; exact List.mem_cons_self
        have m1 := List.mem_filter.mp m
        rcases List.mem_cons.mp m1.1 with e1 | e1
        · rw [e1] at c; omega
        · have := l1.1 b e1; omega
    have e := h a.1
    rw [List.filter_cons, if_pos (by simp), List.filter_cons, if_pos (by simp [hab])] at e
    have e0 : a = b := (List.cons.inj e).1
    subst e0
    refine congrArg _ (eq_of_rows l k l1.2 k1.2 fun z => ?_)
    have ez := h z
    by_cases c : a.1 = z
    · rw [List.filter_cons, if_pos (by simp [c]), List.filter_cons, if_pos (by simp [c])] at ez
      exact (List.cons.inj ez).2
    · rw [List.filter_cons, if_neg (by simp [c]), List.filter_cons, if_neg (by simp [c])] at ez
      exact ez
theorem isort_unique {l k : List (Int × α)} (h1 : k.Pairwise (fun a b => a.1 ≤ b.1)) (h2 : ∀ z, k.filter (fun a => a.1 == z) = l.filter (fun a => a.1 == z)) : k = isort l :=
  eq_of_rows k (isort l) h1 (isort_up l) fun z => (h2 z).trans (isort_row z l).symm
theorem ins_map (f : α → β) (p : Int × α) : ∀ l : List (Int × α), ins (p.1, f p.2) (l.map fun q => (q.1, f q.2)) = (ins p l).map fun q => (q.1, f q.2)
  | [] => rfl
  | q :: r => by
    simp only [List.map_cons, ins]
    split
    · rfl
    · rw [ins_map f p r, List.map_cons]
theorem isort_map (f : α → β) : ∀ l : List (Int × α), isort (l.map fun q => (q.1, f q.2)) = (isort l).map fun q => (q.1, f q.2)
  | [] => rfl
  | p :: r => by
    simp only [List.map_cons, isort]
    rw [isort_map f r, ins_map f p]
/-- the items in the order of their keys, stable -/
def sortBy (key : α → Int) (l : List α) : List α := (isort (l.map fun x => (key x, x))).map (·.2)
theorem sortBy_perm (key : α → Int) (l : List α) : (sortBy key l).Perm l := by
  have h := (isort_perm (l.map fun x => (key x, x))).map (·.2)
  rw [List.map_map] at h
  have e : ((fun x : Int × α => x.2) ∘ fun x => (key x, x)) = id := rfl
  rw [e, List.map_id] at h
  exact h
theorem sortBy_map (f : α → β) (k1 : α → Int) (k2 : β → Int) (l : List α) (h : ∀ x ∈ l, k2 (f x) = k1 x) : sortBy k2 (l.map f) = (sortBy k1 l).map f := by
  unfold sortBy
  have e : ((l.map f).map fun x => (k2 x, x)) = (l.map fun x => (k1 x, x)).map fun q => (q.1, f q.2) := by
    rw [List.map_map, List.map_map]
    refine List.map_congr_left fun x hx => ?_
    show (k2 (f x), f x) = (k1 x, f x)
    rw [h x hx]
  rw [e, isort_map, List.map_map, List.map_map]
  rfl
theorem sortBy_congr (k1 k2 : α → Int) (l : List α) (h : ∀ x ∈ l, k2 x = k1 x) : sortBy k2 l = sortBy k1 l := by
  have := sortBy_map (fun x => x) k1 k2 l h
  simpa using this
end
end OwnR

set_option Elab.async false
set_option linter.all false
set_option maxRecDepth 100000
set_option maxHeartbeats 2000000
namespace OwnR
open PySem PySem.Spec PyProof.Rows L2 LamX
/-! ### sorted(xs, key=lambda y: ..) -/
section
variable {prog : Program} {w : World} {A : Around} {E : Value → Shared → Prop} {s : Shared} {g0 : Heap} {L : Addr} {m : Str → Option Value} {news : List (Addr × Obj)} {vs : List Value}
/-- the new list is sorted by its keys and handed out -/
theorem sort_tail {R : PySem.Fin → Shared → Prop} {kz : List Int} {g : Addr} (F : Fr g0 L s.heap m) (N : News g0 L s.heap news) (hl : kz.length = vs.length) (hz : vs.length ≤ sizeLine)
    (turn : ∀ (i : Nat) (v : Value) (k : Int), vs[i]? = some v → kz[i]? = some k → ∀ (h : Heap) (tk : Nat) (own : List (Addr × Obj)), Fr g0 L h m → News g0 L h (news ++ own) →
      wpAny (model prog w) A.in1 (call (.ref g) [v]) (KskEnd g0 L m (news ++ own) k { s with heap := h, toks := tk }) (fun _ _ => False) { s with heap := h, toks := tk })
    (done : ∀ h' tk out c, Fr g0 L h' m → News g0 L h' ((s.heap.objs.size, seqObj "list" out c) :: news) → KskOutSt false kz vs out.toList → R (.done (.ret (.ref s.heap.objs.size))) { s with heap := h', toks := tk }) :
    wpAny (model prog w) A (newList vs >>= fun l => holding [l] (call (.builtin "list.sort") [l] [(Str.ofString "key", .ref g)]) >>= fun _ => ret l) R E s := by
  have hL : L < s.heap.objs.size := F.ns.lt
  have at0 : (s.heap.push (seqObj "list" vs.toArray 0)).get? s.heap.objs.size = some (seqObj "list" vs.toArray 0) := Heap.get?_push_size _ rfl
  have kp : ∀ b o, s.heap.get? b = some o → (s.heap.push (seqObj "list" vs.toArray 0)).get? b = some o := fun b o e => Heap.get?_push_of_some _ e
  refine wpAny_bind (wpAny_newList ?_ hz)
  show wpAny _ _ _ _ _ { s with heap := s.heap.push (seqObj "list" vs.toArray 0) }
  refine wpAny_bind (wpAny_holding (wpAny_call_entry_kw slot_list_sort ⟨_, at0, rfl⟩ entry_list_sort ?body (ksk_l1 _ _)))
  case body =>
    have et := ksk_t1 g s.heap.objs.size
    show wpAny (model prog w) A.in1 (Builtin.«list.sort» ⟨[.ref s.heap.objs.size], [(Str.ofString "key", .ref g)]⟩) _ _ _
    rw [et]
    refine ksk_sortSt (h₀ := g0) (L := L) (m := m) (news := news) (kz := kz) (vs := vs) (s := { s with heap := s.heap.push (seqObj "list" vs.toArray 0) })
      (F.kept kp) (N.grown kp) at0 (Nat.ne_of_gt hL) (Heap.get?_none_of_le (Nat.le_trans F.above (Nat.le_of_lt hL))) (fun p hp => Nat.ne_of_lt (Heap.lt_size (N p hp).1)) hl hz turn
      fun h' tk out c F' N' k' => ⟨_, rfl, wpAny_pure (done h' tk out c F' N' k')⟩
end
/-- a value of the heap, without its token -/
def toV : Value → V
  | .none => .non
  | .bool b => .bl b
  | .int i _ => .int i
  | .str x _ => .str x
  | .bytes b _ => .byt b
  | .float b _ => .flt b
  | .ref a => .ref a
  | .type n => .ty n
  | _ => .non
theorem toV_of {x : V} {u : Value} (r : RelV x u) : toV u = x := by
  cases x with
  | non => cases (show u = Value.none from r); rfl
  | bl b => cases (show u = Value.bool b from r); rfl
  | int i => obtain ⟨t, e⟩ := (show ∃ t, u = Value.int i t from r); cases e; rfl
  | str x => obtain ⟨t, e⟩ := (show ∃ t, u = Value.str x t from r); cases e; rfl
  | byt b => obtain ⟨t, e⟩ := (show ∃ t, u = Value.bytes b t from r); cases e; rfl
  | flt b => obtain ⟨t, e⟩ := (show ∃ t, u = Value.float b t from r); cases e; rfl
  | ref a => cases (show u = Value.ref a from r); rfl
  | ty n => cases (show u = Value.type n from r); rfl
theorem toV_map {xs : List V} {us : List Value} (r : Vals xs us) : us.map toV = xs := by
  induction r with
  | nil => rfl
  | cons a _ ih => rw [List.map_cons, ih, toV_of a]
theorem vals_toV : ∀ {us : List Value}, (∀ u ∈ us, RelV (toV u) u) → Vals (us.map toV) us
  | [], _ => .nil
  | u :: us, h => .cons (h u List.mem_cons_self) (vals_toV fun v hv => h v (List.mem_cons_of_mem _ hv))
theorem vals_all {xs : List V} {us : List Value} (r : Vals xs us) : ∀ u ∈ us, RelV (toV u) u := by
  induction r with
  | nil => intro u hu; cases hu
  | cons a _ ih =>
    intro u hu
    rcases List.mem_cons.mp hu with rfl | hu
    · rw [toV_of a]; exact a
    · exact ih u hu
/-- what comes out, by values -/
theorem out_of {kz : List Int} {vs out : List Value} {xs : List V} (hl : kz.length = vs.length) (r : Vals xs vs) (k : KskOutSt false kz vs out) :
    ∃ ys, Vals ys out ∧ ys = (isort (kz.zip xs)).map (·.2) := by
  obtain ⟨ps, hp, ho, hs, hst⟩ := k
  have hs' : ps.Pairwise (fun a b => a.1 ≤ b.1) := hs
  have e := isort_unique hs' hst
  have e2 : kz.zip xs = (kz.zip vs).map fun q => (q.1, toV q.2) := by
    rw [← toV_map r, List.zip_map_right]
    rfl
  refine ⟨out.map toV, vals_toV fun u hu => ?_, ?_⟩
  · rw [ho] at hu
    obtain ⟨p, hm, rfl⟩ := List.mem_map.mp hu
    exact vals_all r _ (List.of_mem_zip (hp.mem_iff.mp hm)).2
  · rw [e2, isort_map, ho, e, List.map_map, List.map_map]
    rfl
/-- what a key's body gives for the value u: the int k, nothing changed -/
def KeyRun (X : Cx) (par : Str) (body : Expr) (scope : Scope) (s : Shared) (u : Value) (k : Int) : Prop :=
  ∀ (A : Around) (L' f c' : Addr) (h1 : Heap) (tk : Nat), (∀ b o, s.heap.get? b = some o → b ≠ X.env.locals → h1.get? b = some o) → h1.Ns L' (fun y => ([(par, u)] : List (Str × Value)).reverse.lookup y) →
    wpAny (model X.prog X.w) A (eval body (PySem.W.envX (X.env.qual ++ "<lambda>") scope L' f (.ref c') (cloFrom X.env.cells scope.names []))) (fun v s' => ∃ t tk', v = .int k t ∧ s' = { s with heap := h1, toks := tk' }) (fun _ _ => False)
      { s with heap := h1, toks := tk }
/-- the lambda's scope: its parameter, no cell of its own, captured names of the maker -/
structure LamP (sc scope : Scope) (par : Str) : Prop where
  kind : scope.kind = .function
  co : scope.isCoroutine = false
  gen : scope.isGenerator = false
  cell : ∀ y ∈ scope.names, y.2 ≠ .cell
  par : scope.names.lookup par = some .local
  free : ∀ y ∈ scope.names, y.2 = .free → sc.names.lookup y.1 = some .cell ∨ sc.names.lookup y.1 = some .free
def lamPB (sc scope : Scope) (par : Str) : Bool :=
  decide (scope.kind = .function) && !scope.isCoroutine && !scope.isGenerator && decide (scope.names.lookup par = some .local) && scope.names.all fun y => !decide (y.2 = .cell) && (!decide (y.2 = .free) || decide (sc.names.lookup y.1 = some .cell) || decide (sc.names.lookup y.1 = some .free))
theorem lamP_by {sc scope : Scope} {par : Str} (h : lamPB sc scope par = true) : LamP sc scope par := by
  unfold lamPB at h
  simp only [Bool.and_eq_true, Bool.or_eq_true, Bool.not_eq_true', decide_eq_true_eq, decide_eq_false_iff_not, List.all_eq_true] at h
  obtain ⟨⟨⟨⟨h1, h2⟩, h3⟩, h4⟩, h5⟩ := h
  refine ⟨h1, h2, h3, fun y hy => (h5 y hy).1, h4, fun y hy e => ?_⟩
  rcases (h5 y hy).2 with (z | z) | z
  · exact absurd e z
  · exact .inl z
  · exact .inr z
theorem LamP.has {X : Cx} {scope : Scope} {par : Str} (l : LamP X.env.scope scope par) (ok : X.Ok) : ∀ y ∈ scope.names, y.2 = .free → ∃ c, X.env.cells.lookup y.1 = some c := fun y hy e =>
  (l.free y hy e).elim (fun z => ok.has _ (.inl z)) fun z => ok.has _ (.inr z)
/-- the keys' readings: σ, H ahead; the item; its key -/
abbrev TKey := L2.St → Hp → V → Int → Prop
structure PKey (X : Cx) (par : Str) (body : Expr) (scope : Scope) (r : TKey) : Prop where
  run : ∀ (pins : List (Addr × Obj)) (s : Shared) (σ : L2.St) (H : Hp) (x : V) (u : Value) (k : Int), Inv X pins σ H s → RelV x u → r σ H x k → KeyRun X par body scope s u k
/-- sorted(xs, key=lambda y: body): T the tables of code objects -/
def sortWant (K : PySem.W.Frag) (T : List (Addr × Str)) (r : TKey) (σ : L2.St) (Q : VK) : V → Hp → Prop := fun x H1 => ∃ (p : Addr) (xs : List V) (ks : List Int), x = .ref p ∧ (SqL K H1 p xs ∨ SqT K H1 p xs) ∧ ks.length = xs.length ∧
  Tabs T H1 ∧ (∀ H2, ExtN H1 H2 → ∀ (i : Nat) (x : V) (k : Int), xs[i]? = some x → ks[i]? = some k → r σ H2 x k) ∧
  ∀ H2 D, ExtN H1 H2 → Tabs T H2 → H2 D = none → Q (.ref D) (upd H2 D (.lst ((isort (ks.zip xs)).map (·.2))))
def tSortLam (K : PySem.W.Frag) (T : List (Addr × Str)) (te : TE) (r : TKey) : TE := fun σ H Q => te σ H (sortWant K T r σ Q)
def one1 (g : V → Hp → Prop) : List V → Hp → Prop := fun vs H => match vs with
  | [x] => g x H
  | _ => False
theorem one1_of {g : V → Hp → Prop} {vs : List V} {H : Hp} (h : one1 g vs H) : ∃ x, vs = [x] ∧ g x H := by
  match vs, h with
  | [x], h => exact ⟨x, rfl, h⟩
theorem ns_one {h : Heap} {a : Addr} {m m' : Str → Option Value} (x : h.Ns a m) (y : h.Ns a m') : m = m' := by
  obtain ⟨o, es, ep, ho, hd, _, hm⟩ := x
  obtain ⟨o', es', ep', ho', hd', _, hm'⟩ := y
  rw [ho] at ho'
  cases ho'
  rw [hd] at hd'
  cases hd'
  funext z
  rw [← hm z, hm' z]
/-- a new object, all others kept but the frame's, whose names stay -/
theorem inv_laidL {X : Cx} {pins : List (Addr × Obj)} {σ : L2.St} {H : Hp} {s : Shared} {h' : Heap} {D tk : Nat} {o : HO} {m : Str → Option Value} (I : Inv X pins σ H s) (hn : s.heap.Ns X.env.locals m) (hn' : h'.Ns X.env.locals m)
    (k : ∀ b u, s.heap.get? b = some u → b ≠ X.env.locals → h'.get? b = some u) (hD : s.heap.objs.size ≤ D) (new : ObjOk X.prog X.w (upd H D o) h' D o) : Inv X pins σ (upd H D o) { s with heap := h', toks := tk } := by
  have fD : H D = none := I.hok.fresh hD
  have old : ∀ b u, s.heap.get? b = some u → b ≠ D := fun b u e => Nat.ne_of_lt (Nat.lt_of_lt_of_le (Heap.lt_size e) hD)
  have trL : ∀ b u, H b = some u → b ≠ X.env.locals := fun b u e => ne_of_none e I.free
  refine I.step (g' := s.gens) (d' := s.drawn) (t' := tk) (ch := []) (fun _ z => nomatch z) (fun b u nb _ _ e _ => k b u e nb) (fun b u nb _ _ e _ => ⟨u.slots, k b u e nb⟩) (fun b u _ e n => by rw [upd_ne (old b u e)]; exact n) (fun b u _ e => ?_)
    (fun b ys e => by rw [upd_ne (ne_of_none e fD)]; exact e) (fun b u v e => by rw [upd_ne (ne_of_none e fD)]; exact e) (fun b ps e => ⟨#[], by rw [upd_ne (ne_of_none e fD), e]; simp⟩) (fun m' hm => ?_) (fun b u e => ?_) I.bare
  · by_cases hb : b = X.env.locals
    · obtain ⟨ob, _, _, e1, _⟩ := hn'
      exact ⟨ob, by rw [hb]; exact e1⟩
    · exact ⟨u, k b u e hb⟩
  · rw [ns_one hm hn]
    exact hn'
  · by_cases hb : b = D
    · rw [hb, upd_same] at e
      cases e
      rw [hb]
      exact new
    · rw [upd_ne hb] at e
      refine (I.hok b u e).stay (fun c v hc q => k c v q ?_) (fun c q => by rw [upd_ne (ne_of_none q fD)]; exact q) fun c ys q => by rw [upd_ne (ne_of_none q fD)]; exact q
      rcases hc with z | z
      · rw [z]
        exact trL b u e
      · exact trL c _ z
theorem seq_at {X : Cx} {pins : List (Addr × Obj)} {σ : L2.St} {H : Hp} {s : Shared} {p : Addr} {xs : List V} (I : Inv X pins σ H s) (h : SqL X.K H p xs ∨ SqT X.K H p xs) :
    ∃ (its : List Value) (T : String) (o : Obj) (n : Nat), Vals xs its ∧ (T = "list" ∨ T = "tuple") ∧ s.heap.get? p = some o ∧ o.cls = .type T ∧ o.data = .seq its.toArray n ∧ xs.length ≤ sizeLine := by
  rcases h with h | h
  · obtain ⟨its, r, pl, hz⟩ := I.list h
    obtain ⟨o, ho, hc, n, hd⟩ := pl.isList
    exact ⟨its, "list", o, n, r, .inl rfl, ho, hc, hd, hz⟩
  · obtain ⟨its, r, ⟨o, ho, hc, n, hd⟩, hz⟩ := I.tuple h
    exact ⟨its, "tuple", o, n, r, .inr rfl, ho, hc, hd, hz⟩
theorem pe_sortLam {X : Cx} {T : List (Addr × Str)} {c P : Addr} {te : TE} {r : TKey} {e body : Expr} {params : Arguments} {scope : Scope} {par : Str} {p1 pos lpos kpos : Pos} (hr : Room 2 X.A) (TB : TabB X.base X.mg c P) (hcode : X.env.code = .ref c)
    (hm : (P, X.env.qual ++ "<lambda>") ∈ T) (hu : ∀ p ∈ T, p.1 = P → p.2 = X.env.qual ++ "<lambda>") (hg : Gl X "sorted") (hms : X.mg "sorted" = none) (lp : LamP X.env.scope scope par) (he : PE X e te) (hk : PKey X par body scope r)
    (hdef : defaultsOf params X.env = ([], []) := by rfl)
    (hb : ∀ (cl : List (Str × Addr)) (pm cdv ct v : Value), bindArgs (PySem.W.kla_fn "<lambda>" (X.env.qual ++ "<lambda>") params body scope cl pm cdv ct) ⟨[v], []⟩ = pure [(par, v)] := by intros; rfl)
    (h0 : starEach [e] X.env = (false, eval e X.env) :: starEach [] X.env := by rfl)
    (h1 : backTo pos (starEach [e] X.env) = (false, eval e X.env) :: backTo pos (starEach [] X.env) := by rfl) (h2 : (backTo pos (starEach [e] X.env)).any (·.1) = false := by rfl)
    (h3 : (backToKw pos (keywordEach [⟨some "key", .Lambda params body scope lpos, kpos⟩] X.env)).all (·.1.isSome) = true := by rfl) (h4 : (backToKw pos (keywordEach [⟨some "key", .Lambda params body scope lpos, kpos⟩] X.env)).any (·.1.isNone) = false := by rfl)
    (h5 : (backToKw pos (keywordEach [⟨some "key", .Lambda params body scope lpos, kpos⟩] X.env)).filterMap (·.1) = [Str.ofString "key"] := by rfl) :
    PE X (.Call (.Name "sorted" p1) [e] [⟨some "key", .Lambda params body scope lpos, kpos⟩] pos) (tSortLam X.K T te r) := by
  have hpa : PA X [e] (tCons te tNil) := pa_cons he pa_nil h0
  refine ⟨fun pins s σ H Q I h => ?_⟩
  refine wpAny_Call_Name_kw (ld_blt I hg hms (by decide +kernel : bootBuiltins "sorted" = some (.builtin "sorted")) ?_)
  refine PyProof.Rows.callWith_kw (thn (hpa.run pos pins s σ H (one1 (sortWant X.K T r σ Q)) I h) fun us s1 hs1 => ?_) h1 h2 h3 h4
  obtain ⟨vs, H1, I1, rv, hq⟩ := hs1
  obtain ⟨x, rfl, hq⟩ := one1_of hq
  obtain ⟨p, xs, ks, rfl, hsq, hlk, hT, hR, q⟩ := hq
  obtain ⟨u1, rfl, ru⟩ := vals1 rv
  cases (show u1 = Value.ref p from ru)
  rw [h5]
  show wpAny _ _ (evalAll ((do let v ← eval (.Lambda params body scope lpos) X.env; standAt pos; pure v) :: [])) _ _ s1
  refine wpAny_evalAll_cons (wpAny_bind (lam_make2 I1 TB hcode hm hu hT hdef (lp.has I1.ok) fun f c' pm ctv H2 s2 I2 eN T2 hf hfn hfs hc => wpAny_bind (wpAny_standAt (wpAny_pure (wpAny_pure ?_)))))
  show wpAny _ _ (call (.builtin "sorted") [.ref p] [(Str.ofString "key", .ref f)]) _ _ s2
  have hsq2 : SqL X.K H2 p xs ∨ SqT X.K H2 p xs := by
    rcases hsq with ((z | ⟨o, z⟩) | z) | ((z | ⟨o, z⟩) | z)
    · exact .inl (.inl (.inl (eN _ _ z (fun _ y => nomatch y))))
    · exact .inl (.inl (.inr ⟨o, eN _ _ z (fun _ y => nomatch y)⟩))
    · exact .inl (.inr z)
    · exact .inr (.inl (.inl (eN _ _ z (fun _ y => nomatch y))))
    · exact .inr (.inl (.inr ⟨o, eN _ _ z (fun _ y => nomatch y)⟩))
    · exact .inr (.inr z)
  obtain ⟨its, Ty, o, n, rI, hTy, ho, hcl, hd, hz⟩ := seq_at I2 hsq2
  have hli := rI.length
  refine PyProof.Rows.call_function_entry_kw kind_sorted plain_sorted entry_sorted (ksk_s1 _ _) ?_
  show wpAny _ _ (checkCount "sorted" 1 1 1 >>= fun _ => collect (.ref p) >>= fun vs => newList vs >>= fun l => holding [l] (call (.builtin "list.sort") [l] [(Str.ofString "key", .ref f)]) >>= fun _ => ret l) _ _ _
  refine wpAny_bind (m := checkCount "sorted" 1 1 1) (wpAny_pure (wpAny_bind (wpAny_collect_seq p hTy ho hcl hd (fun h' kp => ?_) (by rw [List.size_toArray]; omega))))
  have e1 : its.toArray.toList = its := by simp
  rw [e1]
  have I3 : Inv X pins σ H2 { s2 with heap := h', toks := s2.toks } := I2.kept kp
  obtain ⟨m, F⟩ := I3.fr
  have N := news_all (g := X.base) (h := h') (L := X.env.locals)
  have keepAll : ∀ {hh : Heap} {mm : Str → Option Value} {own : List (Addr × Obj)}, Fr X.base X.env.locals hh mm → News X.base X.env.locals hh (allNews X.base h' X.env.locals ++ own) → ∀ b ob, h'.get? b = some ob → b ≠ X.env.locals → hh.get? b = some ob := by
    intro hh mm own F' N' b ob eb nb
    cases q : X.base.get? b with
    | some ob' =>
      have := I3.bk b ob' q
      rw [eb] at this
      cases this
      exact F'.keep b _ q
    | none => exact (N' (b, ob) (List.mem_append_left _ (mem_allNews nb q eb))).1
  have hr1 : Room 1 X.A.in1 := hr.in1
  refine sort_tail (kz := ks) F N (by rw [hlk, hli]) (by rw [← hli]; exact hz) (fun i v k hv hk' hh tk own F' N' => ?_) fun hh tk out cc F' N' ko => ?_
  · have hi : i < its.length := (List.getElem?_eq_some_iff.mp hv).1
    obtain ⟨x, hx⟩ : ∃ x, xs[i]? = some x := ⟨_, List.getElem?_eq_getElem (by omega)⟩
    obtain ⟨v', hv', rx⟩ := rI.get hx
    have ev : v' = v := Option.some.inj (hv'.symm.trans hv)
    subst ev
    have nfL : f ≠ X.env.locals := fun z => by
      obtain ⟨mL, ⟨oL, _, _, eL, dL, _⟩, _⟩ := I2.loc
      rw [← z, hf] at eL
      cases eL
      cases dL
    have hff := keepAll F' N' f _ (kp _ _ hf) nfL
    obtain ⟨⟨oc, cv, ct, d1, d2, d3⟩, _, _⟩ := I2.hok c' _ hc
    have hcc := keepAll F' N' c' _ (kp _ _ d1) (ne_of_none hc I2.free)
    refine wpAny_call (PySem.W.kla_callFunE hr.in1.in1.depth hff rfl lp.co lp.gen rfl ⟨c', oc, cv, ct, rfl, hcc, d2, d3⟩ ?_)
    rw [hb]
    refine wpAny_pure (wpAny_newFunctionEnv lp.cell (fun y hy => ?_) (fun h₁ hns hsb => ⟨(I2.ok.mod.nolimit.keeps F'.keep).fresh _ hsb, ?_⟩) lp.kind)
    · rw [List.mem_singleton.mp hy]
      exact lp.par
    · have kp1 : ∀ b ob, hh.get? b = some ob → h₁.get? b = some ob := fun b ob e => hsb.extBut b ob (Nat.ne_of_lt (Heap.lt_size e)) (Heap.get?_push_of_some _ e)
      show codeAny _ _ (.expr body (PySem.W.envX (X.env.qual ++ "<lambda>") scope hh.objs.size f (.ref c') (cloFrom X.env.cells scope.names []))) _ _
      refine PySem.W.kla_codeExpr (wpAny_mono (hk.run pins _ σ H2 x v' k I3 rx (hR H2 eN i x k hx hk') _ hh.objs.size f c' h₁ (tk + 1) (fun b ob e nb => kp1 b ob (keepAll F' N' b ob e nb)) hns) (fun v s' hq => ?_) fun _ _ z => z.elim)
      obtain ⟨t, tk', ev, es⟩ := hq
      exact ⟨h₁, tk', t, es, ev, ⟨F'.ns.keeps kp1, fun b ob e => kp1 b ob (F'.keep b ob e), F'.above⟩, fun z hz => ⟨kp1 _ _ (N' z hz).1, (N' z hz).2⟩⟩
  · obtain ⟨ys, r2, ey⟩ := out_of (by rw [hlk, hli]) rI ko
    have lo : ys.length = xs.length := by
      rw [ey, List.length_map, (isort_perm _).length_eq, List.length_zip, hlk, Nat.min_self]
    have at1 := (N' _ List.mem_cons_self).1
    have I4 := inv_laidL (D := h'.objs.size) (tk := tk) (o := .lst ys) I3 F.ns F'.ns (fun b ob e nb => keepAll (own := []) F' (fun z hz => N' z (List.mem_cons_of_mem _ (by simpa using hz))) b ob e nb) (Nat.le_refl _)
      ⟨by rw [lo]; exact hz, out.toList, cc, r2, by rw [Array.toArray_toList]; exact at1⟩
    refine ⟨_, rfl, .ref h'.objs.size, _, I4, rfl, ?_⟩
    rw [ey]
    exact q H2 h'.objs.size eN T2 (I3.hok.fresh (Nat.le_refl _))
end OwnR

set_option Elab.async false
set_option linter.all false
set_option maxRecDepth 100000
set_option maxHeartbeats 2000000
namespace OwnR
open PySem PySem.Spec PyProof.Rows L2 LamX
/-! ### two bodies of keys: d[y], d captured; y[n] of a tuple -/
/-- what is read of a tracked object stays where all but the frame is kept -/
theorem ok_keepL {X : Cx} {pins : List (Addr × Obj)} {σ : L2.St} {H : Hp} {s : Shared} {h' : Heap} {b : Addr} {u : HO} (I : Inv X pins σ H s) (k : ∀ b o, s.heap.get? b = some o → b ≠ X.env.locals → h'.get? b = some o) (e : H b = some u) : ObjOk X.prog X.w H h' b u := by
  refine (I.hok b u e).stay (fun c v hc q => k c v q ?_) (fun _ q => q) fun _ _ q => q
  rcases hc with z | z
  · rw [z]
    exact ne_of_none e I.free
  · exact ne_of_none z I.free
theorem rd_keepL {X : Cx} {pins : List (Addr × Obj)} {σ : L2.St} {H : Hp} {s : Shared} {h' : Heap} {b : Addr} {u : HO} (I : Inv X pins σ H s) (k : ∀ b o, s.heap.get? b = some o → b ≠ X.env.locals → h'.get? b = some o) (e : Rd H b u) : ObjOk X.prog X.w H h' b u := by
  rcases e with e | ⟨o, e⟩
  · exact ok_keepL I k e
  · exact (ok_keepL I k e).2
def keyDict (j : Nat) : TKey := fun σ H x k => ∃ (a : Addr) (kvs : List (Key × V)) (key : Key), σ[j]? = some (some (.ref a)) ∧ Rd H a (.dK kvs) ∧ x = kV key ∧ valV kvs key = some (.int k)
theorem pk_dict {X : Cx} {par d : Str} {scope : Scope} {p1 p2 p3 : Pos} {j : Nat} (hN : X.N[j]? = some d) (hd : (d, NameKind.free) ∈ scope.names) (hl : scope.names.lookup d = some .free) (lp : LamP X.env.scope scope par)
    (hv : Vis X.env.scope d) (n1 : (d == ("__debug__" : Str)) = false := by decide) (n2 : (par == ("__debug__" : Str)) = false := by decide) (n3 : (d == ("__classdict__" : Str)) = false := by decide) (hsl : NoSl (.Name par p2) := by exact fun _ _ => rfl) :
    PKey X par (.Subscript (.Name d p1) (.Name par p2) p3) scope (keyDict j) := by
  refine ⟨fun pins s σ H x u k I rx hr A L' f c' h1 tk kp hns => ?_⟩
  obtain ⟨a, kvs, key, hs, hrd, ex, hval⟩ := hr
  subst ex
  have hfree := lp.has I.ok
  obtain ⟨m, hm, hlook⟩ := I.loc
  obtain ⟨w', rw', lk⟩ := hlook j d (.ref a) hN hs hv
  cases (show w' = Value.ref a from rw')
  have kd : X.env.scope.names.lookup d = some .cell ∨ X.env.scope.names.lookup d = some .free := lp.free _ hd rfl
  obtain ⟨c, hc, hcell⟩ : ∃ c, X.env.cells.lookup d = some c ∧ s.heap.IsCell c (some (.ref a)) := by
    rcases lk with ⟨k1, _⟩ | ⟨_, c, hc, z⟩
    · have k1 : X.env.scope.names.lookup d = some .local := k1
      rcases kd with k2 | k2 <;> rw [k2] at k1 <;> cases k1
    · exact ⟨c, hc, z⟩
  have hcell' : h1.IsCell c (some (.ref a)) := by
    obtain ⟨o, ho, hd'⟩ := hcell
    exact ⟨o, kp c o ho (I.cne d c hc), hd'⟩
  have hclo : (cloFrom X.env.cells scope.names []).lookup d = some c := NdefX.clo_has hfree hd hc
  obtain ⟨z, hsm, vs, rel, dd⟩ := (show ObjOk X.prog X.w H h1 a (.dK kvs) from rd_keepL I kp hrd)
  obtain ⟨w2, hw, rw2⟩ := RelO.some_of (v := .int k) (o := valueAt vs key) (by rw [← hval]; exact rel.val key)
  obtain ⟨t, rfl⟩ := (show ∃ t, w2 = Value.int k t from rw2)
  have tdict : ∀ tk', ({ s with heap := h1, toks := tk' } : Shared).TypeIs (.ref a) "dict" := fun tk' => (dd.mapOf).typeIs
  refine subD_of PySem.F.slot_dict_getitem.lookup hsl (wpAny_Name (wpAny_loadName_free lp.kind hl hclo hcell' ?_ n3) n1)
  refine wpAny_Name (wpAny_loadName_local (v := u) lp.kind lp.par hns ?_ ?_) n2
  · show ([(par, u)] : List (Str × Value)).reverse.lookup par = some u
    simp [List.lookup]
  · exact ⟨tdict _, wpAny_getItem_of (kV_is rx) dd.mapOf hw ⟨t, _, rfl, rfl⟩⟩
def keyItem (K : PySem.W.Frag) (n : Nat) : TKey := fun σ H x k => ∃ (t : Addr) (ys : List V), x = .ref t ∧ SqT K H t ys ∧ ys[n]? = some (.int k)
theorem pk_item {X : Cx} {par : Str} {scope : Scope} {p1 p2 p3 : Pos} {n j : Nat} (lp : LamP X.env.scope scope par) (hn : n < 1000) (n2 : (par == ("__debug__" : Str)) = false := by decide) :
    PKey X par (.Subscript (.Name par p1) (.Constant (.int (n : Int)) j p2) p3) scope (keyItem X.K n) := by
  refine ⟨fun pins s σ H x u k I rx hr A L' f c' h1 tk kp hns => ?_⟩
  obtain ⟨t, ys, ex, hsq, hy⟩ := hr
  subst ex
  cases (show u = Value.ref t from rx)
  have hit : ∃ its : List Value, Vals ys its ∧ IsTup h1 t its.toArray ∧ ys.length ≤ sizeLine := by
    rcases hsq with z | z
    · obtain ⟨hz, its, r, it⟩ := (show ObjOk X.prog X.w H h1 t (.tup ys) from rd_keepL I kp z)
      exact ⟨its, r, it, hz⟩
    · obtain ⟨its, r, ⟨o, ho, hc, n', hd⟩, hz⟩ := I.tuple (.inr z)
      refine ⟨its, r, ⟨o, kp _ _ ho ?_, hc, n', hd⟩, hz⟩
      intro zz
      obtain ⟨mL, ⟨oL, _, _, eL, dL, _⟩, _⟩ := I.loc
      rw [← zz, ho] at eL
      cases eL
      rw [hd] at dL
      cases dL
  obtain ⟨its, r, it, hz⟩ := hit
  obtain ⟨w2, hw, rw2⟩ := r.get hy
  obtain ⟨t', rfl⟩ := (show ∃ t, w2 = Value.int k t from rw2)
  have hl := r.length
  have hlt : n < ys.length := (List.getElem?_eq_some_iff.mp hy).1
  have hn63 := line63
  refine Subscript_ (wpAny_Name (wpAny_loadName_local lp.kind lp.par hns (v := Value.ref t) ?_ (wpAny_Constant_int ?_)) n2)
  · show ([(par, Value.ref t)] : List (Str × Value)).reverse.lookup par = some (Value.ref t)
    simp [List.lookup]
  · exact subscriptTail_builtinR (x := Value.int k t') it.typeIs slot_tuple_getitem.lookup
      (getItem_tuple (j := n) (Q := fun r s' => r = Value.int k t' ∧ ∃ t1 tk', r = Value.int k t1 ∧ s' = { s with heap := h1, toks := tk' }) it (by omega) (by omega)
        (by rw [List.size_toArray, ← hl, seqIndex_of (by omega) (by omega)]; simp) (by simpa using hw) ⟨rfl, t', _, rfl, rfl⟩) rfl
end OwnR

set_option Elab.async false
set_option linter.all false
set_option maxRecDepth 100000
set_option maxHeartbeats 2000000
namespace OwnR
open PySem PySem.Spec PyProof.Rows L2
section
variable {X : Cx} {CX : CXT} {k : Nat} {g C : Addr} {sp : Sp} {E : XK}
/-! ### y in x, y not in x: x an instance of C, which has __contains__ -/
def rInO (C : Addr) (sp : Sp) (E : XK) (neg : Bool) : R2 := fun x y H Q => ∃ a dx fs, y = .ref a ∧ H a = some (.ins C dx fs) ∧ sp [.ref a, x] H (fun z H' => ∃ b, z = .bl b ∧ Q (.bl (b != neg)) H') E
theorem op_inO (hs : PySem.W.findIn X.K (.ref C) "__contains__" = some (some (.ref g))) (hf : PySem.W.isFn X.K (.ref g) = true) (F : FnR X.prog X.w X.K X.mg X.base CX k g sp) (hr : Room k X.A) (hx : Passes CX X E) : OpR X (compareOp .In) (rInO C sp E false) := by
  intro pins s σ H x y v u Q I rx ry h
  obtain ⟨a, dx, fs, rfl, ha, q⟩ := h
  cases (show u = Value.ref a from ry)
  obtain ⟨ox, od, J, hd⟩ := StX.insC_at I (.inr ⟨dx, fs, ha⟩)
  obtain ⟨m, hF⟩ := I.fr
  refine PySem.W.in_K hF I.ok.mod.kin J hs hf (thn (wpAny_call (run_fnR (us := [.ref a, v]) (vs := [.ref a, x]) F hr hx I (.cons rfl (.cons rx .nil)) q)) fun w' s' hq => ?_)
  obtain ⟨z, H', I', rz, b, ez, qz⟩ := hq
  subst ez
  cases (show w' = Value.bool b from rz)
  exact wpAny_truthy_bool ⟨.bl b, H', I', rfl, by simpa using qz⟩
theorem op_notInO (hs : PySem.W.findIn X.K (.ref C) "__contains__" = some (some (.ref g))) (hf : PySem.W.isFn X.K (.ref g) = true) (F : FnR X.prog X.w X.K X.mg X.base CX k g sp) (hr : Room k X.A) (hx : Passes CX X E) : OpR X (compareOp .NotIn) (rInO C sp E true) := by
  intro pins s σ H x y v u Q I rx ry h
  obtain ⟨a, dx, fs, rfl, ha, q⟩ := h
  cases (show u = Value.ref a from ry)
  obtain ⟨ox, od, J, hd⟩ := StX.insC_at I (.inr ⟨dx, fs, ha⟩)
  obtain ⟨m, hF⟩ := I.fr
  refine PySem.W.notIn_K hF I.ok.mod.kin J hs hf (thn (wpAny_call (run_fnR (us := [.ref a, v]) (vs := [.ref a, x]) F hr hx I (.cons rfl (.cons rx .nil)) q)) fun w' s' hq => ?_)
  obtain ⟨z, H', I', rz, b, ez, qz⟩ := hq
  subst ez
  cases (show w' = Value.bool b from rz)
  exact wpAny_truthy_bool ⟨.bl (!b), H', I', rfl, by simpa using qz⟩
/-! ### o[i]: o an instance of C, which has __getitem__ -/
def tSubO (C : Addr) (sp : Sp) (E : XK) (to ti : TE) : TE := fun σ H Q => to σ H fun x H1 => ti σ H1 fun y H2 => ∃ a dx fs, x = .ref a ∧ H2 a = some (.ins C dx fs) ∧ sp [.ref a, y] H2 Q E
theorem pe_subO {o i : Expr} {pos : Pos} {to ti : TE} (hs : PySem.W.findIn X.K (.ref C) "__getitem__" = some (some (.ref g))) (hf : PySem.W.isFn X.K (.ref g) = true) (hfi : PySem.W.fnIn X.K g = true) (F : FnR X.prog X.w X.K X.mg X.base CX k g sp) (hr : Room (k + 1) X.A) (hx : Passes CX X E)
    (ho : PE X o to) (hi : PE X i ti) (hsl : ∀ a v, subscripted i true (.ref a) v = runValue (.builtin "lifetime.subscript" ⟨[.ref a, v], []⟩) := by intros; with_unfolding_all rfl) : PE X (.Subscript o i pos) (tSubO C sp E to ti) := by
  refine ⟨fun pins s σ H Q I h => ?_⟩
  refine Subscript_ (thn (ho.run pins s σ H _ I h) fun u s1 ⟨x, H1, I1, rx, q1⟩ => thn (hi.run pins s1 σ H1 _ I1 q1) fun iv s2 ⟨y, H2, I2, ry, a, dx, fs, ex, ha, q⟩ => ?_)
  subst ex
  cases (show u = Value.ref a from rx)
  obtain ⟨ox, od, J, hd⟩ := StX.insC_at I2 (.inr ⟨dx, fs, ha⟩)
  obtain ⟨m, hF⟩ := I2.fr
  exact PySem.W.sub_K hF I2.ok.mod.kin J hs hfi hf (wpAny_call (SlX.run_at (us := [.ref a, iv]) (ws := [.ref a, y]) F hr.in1 I2.env0.in1 hx I2 (.cons rfl (.cons ry .nil)) q)) (hsl a iv)
/-! ### len(o) -/
def rLenO (C : Addr) (sp : Sp) (E : XK) : List V → Hp → VK → Prop := fun xs H Q => ∃ a dx fs, xs = [V.ref a] ∧ H a = some (.ins C dx fs) ∧ sp [.ref a] H (fun z H' => ∃ n : Nat, z = .int (n : Int) ∧ n ≤ sizeLine ∧ Q (.int (n : Int)) H') E
theorem call_lenO (hs : PySem.W.findIn X.K (.ref C) "__len__" = some (some (.ref g))) (hf : PySem.W.isFn X.K (.ref g) = true) (F : FnR X.prog X.w X.K X.mg X.base CX k g sp) (hr : Room (k + 1) X.A) (hx : Passes CX X E) : CallR X (.builtin "len") (rLenO C sp E) := by
  intro pins s σ H xs us Q I r h
  obtain ⟨a, dx, fs, rfl, ha, q⟩ := h
  obtain ⟨u, rfl, ru⟩ := r.one
  cases (show u = Value.ref a from ru)
  obtain ⟨ox, od, J, hd⟩ := StX.insC_at I (.inr ⟨dx, fs, ha⟩)
  obtain ⟨m, hF⟩ := I.fr
  refine PySem.W.len_K hF I.ok.mod.kin J hs hf (thn (wpAny_call (SlX.run_at (us := [.ref a]) (ws := [.ref a]) F hr.in1 I.env0.in1 hx I (.cons rfl .nil) q)) fun w' s' hq => ?_)
  obtain ⟨z, H', I', rz, n, ez, hn, qz⟩ := hq
  subst ez
  obtain ⟨t, e⟩ := (show ∃ t, w' = Value.int (n : Int) t from rz)
  cases e
  have := line63
  exact ⟨⟨by omega, by omega⟩, .int (n : Int), H', I'.tok _, ⟨_, rfl⟩, qz⟩
/-! ### a + b, both of C, which has __add__ -/
def rAddO (C : Addr) (sp : Sp) (E : XK) : R2 := fun x y H Q => ∃ a dx fs b dy gs, x = .ref a ∧ y = .ref b ∧ H a = some (.ins C dx fs) ∧ H b = some (.ins C dy gs) ∧ sp [.ref a, .ref b] H Q E
theorem op_addO (hc : PySem.W.selfFirst X.K C = true) (hs : PySem.W.findIn X.K (.ref C) (PySem.dunder (Operator.info .Add).2) = some (some (.ref g))) (hf : PySem.W.isFn X.K (.ref g) = true) (F : FnR X.prog X.w X.K X.mg X.base CX k g sp) (hr : Room k X.A) (hx : Passes CX X E) : OpR X (binaryOp .Add) (rAddO C sp E) := by
  intro pins s σ H x y v u Q I rx ry h
  obtain ⟨a, dx, fs, b, dy, gs, rfl, rfl, ha, hb, q⟩ := h
  cases (show v = Value.ref a from rx)
  cases (show u = Value.ref b from ry)
  obtain ⟨ox, od, J, hd⟩ := StX.insC_at I (.inr ⟨dx, fs, ha⟩)
  obtain ⟨oy, od', J', hd'⟩ := StX.insC_at I (.inr ⟨dy, gs, hb⟩)
  obtain ⟨m, hF⟩ := I.fr
  refine PySem.W.binop_K (op := .Add) hF I.ok.mod.kin J J'.type hc hs hf (thn (wpAny_call (run_fnR (us := [.ref a, .ref b]) (vs := [.ref a, .ref b]) F hr hx I (.cons rfl (.cons rfl .nil)) q)) fun w' s' hq => ?_)
  obtain ⟨z, H', I', rz, qz⟩ := hq
  exact SlX.cmpback rz ⟨z, H', I', rz, qz⟩
/-! ### x(*y), x a slot that holds the class C -/
def tMakeLS (K : PySem.W.Frag) (C : Addr) (sp : Sp) (E : XK) (tf te : TE) : TE := fun σ H Q => tf σ H fun z H0 => z = .ref C ∧ te σ H0 fun y H1 => ∃ a xs, y = V.ref a ∧ (SqT K H1 a xs ∨ SqL K H1 a xs) ∧ ∀ x dx, H1 x = none → H1 dx = none → dx ≠ x →
  sp (V.ref x :: xs) (upd (upd H1 dx (.own x)) x (.ins C dx [])) (fun v H2 => v = .non ∧ Q (.ref x) H2) E
theorem pe_makeLS {x : Str} {e : Expr} {p p2 pos : Pos} {tf te : TE} {f : Addr} (M : Mk X.K C f) (F : FnR X.prog X.w X.K X.mg X.base CX k f sp) (hr : Room (k + 1) X.A) (hx : Passes CX X E) (hf : PE X (.Name x p) tf) (he : PE X e te)
    (hst : starEach [.Starred e p2] X.env = [(true, eval e X.env)] := by rfl) : PE X (.Call (.Name x p) [.Starred e p2] [] pos) (tMakeLS X.K C sp E tf te) := by
  refine ⟨fun pins s σ H Q I h => ?_⟩
  refine wpAny_Call_Name_kw (thn (hf.run pins s σ H _ I h) fun u s0 ⟨z, H0, I0, rz, ez, q0⟩ => ?_)
  subst ez
  cases (show u = Value.ref C from rz)
  refine PySem.W.callWith_S (h₀ := X.base) I.ok.mod.kin M.kp (thn (he.run pins s0 σ H0 _ I0 q0) fun v s1 ⟨y, H1, I1, ry, a, xs, ey, hxs, q⟩ => ?_) hst
  subst ey
  cases (show v = Value.ref a from ry)
  exact StX.star_any I1 hxs fun us s2 I2 rv => ⟨I2.kIn, StX.run_makeR M F hr hx I2 rv q⟩
end
/-- x(*y), x a class of the module -/
theorem pe_makeGS {X : Cx} {CX : CXT} {k : Nat} {C : Addr} {sp : Sp} {E : XK} {x : Str} {e : Expr} {p p2 pos : Pos} {te : TE} {f : Addr} (M : Mk X.K C f) (F : FnR X.prog X.w X.K X.mg X.base CX k f sp) (hr : Room (k + 1) X.A) (hx : Passes CX X E) (hg : Gl X x) (hm : X.mg x = some (.ref C)) (he : PE X e te)
    (hdb : (x == ("__debug__" : Str)) = false := by decide) (hst : starEach [.Starred e p2] X.env = [(true, eval e X.env)] := by rfl) : PE X (.Call (.Name x p) [.Starred e p2] [] pos) (tMakeLS X.K C sp E (tC (.ref C)) te) :=
  pe_makeLS M F hr hx (pe_glob hg hm rfl hdb) he hst
/-! ### xs[i] op= e, xs a list -/
theorem pg_list {X : Cx} : PGet X (rIxL X.K) := by
  intro pins s σ H x y v u Q I rx ry h
  obtain ⟨p, xs, i, z, rfl, rfl, hq, he, q⟩ := h
  cases (show v = Value.ref p from rx)
  obtain ⟨t, rfl⟩ := (show ∃ t, u = Value.int i t from ry)
  obtain ⟨its, r, pl, hz⟩ := I.list hq
  obtain ⟨j, h1, h2, h3, h4, h5⟩ := atI_get he
  obtain ⟨w, ew, rw'⟩ := r.get h2
  have hl := r.length
  have hn := line63
  have fin : EP X pins σ Q w s := ⟨z, H, I, rw', q⟩
  by_cases h0 : 0 ≤ i
  · have hj : i.toNat = j := by
      rw [seqIndex_of h0 h5] at h1
      exact Option.some.inj h1
    exact wpAny_getItem_list pl.isList h0 (by omega) (by rw [hj]; simpa using ew) fin
  · have hj : (i + (its.toArray.size : Int)).toNat = j := by
      rw [seqIndex_neg (by omega) h4] at h1
      rw [List.size_toArray, ← hl]
      exact Option.some.inj h1
    exact wpAny_getItem_list_neg pl.isList (by omega) (by rw [List.size_toArray] <;> omega) (by omega) (by rw [hj]; simpa using ew) fin
end OwnR

set_option Elab.async false
set_option linter.all false
set_option maxRecDepth 100000
namespace Sl
open PySem L2
def top (i : Nat) : Stmt := PySem.Challenge.pw_slowleaders_k66_whole_all_undone_and_don.main.body.getD i (.Pass ⟨0, 0, 0, 0⟩)
abbrev sRoadError : Stmt := top 2
abbrev sInvalidRoad : Stmt := top 3
abbrev sInvalidRoadInit : Stmt := inClass sInvalidRoad 0
abbrev sInvalidCars : Stmt := top 4
abbrev sInvalidCarsInit : Stmt := inClass sInvalidCars 0
abbrev sInvalidNumber : Stmt := top 5
abbrev sUnknownCar : Stmt := top 6
abbrev sUnknownCarInit : Stmt := inClass sUnknownCar 0
abbrev sUnknownSection : Stmt := top 7
abbrev sUnknownSectionInit : Stmt := inClass sUnknownSection 0
abbrev sInvalidName : Stmt := top 8
abbrev sTooManyCars : Stmt := top 9
abbrev sInvalidKind : Stmt := top 10
abbrev sAlreadyOpen : Stmt := top 11
abbrev sInvalidOperation : Stmt := top 12
abbrev sInvalidOperationInit : Stmt := inClass sInvalidOperation 0
abbrev sContradiction : Stmt := top 13
abbrev sIsNumber : Stmt := top 19
abbrev sIsName : Stmt := top 20
abbrev sIsCar : Stmt := top 21
abbrev sCheckCars : Stmt := top 22
abbrev sCheckKnown : Stmt := top 23
abbrev sCheckNewName : Stmt := top 24
abbrev sInOrder : Stmt := top 26
abbrev sFollow : Stmt := top 27
abbrev sDriveAll : Stmt := top 28
abbrev sDrive : Stmt := top 29
abbrev sDInit : Stmt := inClass sDrive 0
abbrev sDCheckCar : Stmt := inClass sDrive 1
abbrev sDCheckPlace : Stmt := inClass sDrive 2
abbrev sDCheckSection : Stmt := inClass sDrive 3
abbrev sDGet : Stmt := inClass sDrive 4
abbrev sDCall : Stmt := inClass sDrive 5
abbrev sDHas : Stmt := inClass sDrive 6
abbrev sDLen : Stmt := inClass sDrive 7
abbrev sDOrderAt : Stmt := inClass sDrive 9
abbrev sDLeader : Stmt := inClass sDrive 10
abbrev sDRowsOf : Stmt := inClass sDrive 11
abbrev sDOvertakings : Stmt := inClass sDrive 12
abbrev sDLosses : Stmt := inClass sDrive 13
abbrev sIsSection : Stmt := top 36
abbrev sUnitsOf : Stmt := top 37
abbrev sRuns : Stmt := top 38
abbrev sRoad : Stmt := top 39
abbrev sRInit : Stmt := inClass sRoad 0
abbrev sROfUnits : Stmt := inClass sRoad 1
abbrev sRSections : Stmt := inClass sRoad 2
abbrev sRUnits : Stmt := inClass sRoad 3
abbrev sRWidened : Stmt := inClass sRoad 4
abbrev sRLen : Stmt := inClass sRoad 5
abbrev sRGet : Stmt := inClass sRoad 6
abbrev sRHas : Stmt := inClass sRoad 8
abbrev sRAdd : Stmt := inClass sRoad 9
abbrev sRMul : Stmt := inClass sRoad 10
abbrev sREq : Stmt := inClass sRoad 11
abbrev sArrivals : Stmt := top 41
abbrev sChanges : Stmt := top 42
abbrev sJoin : Stmt := top 43
abbrev sRemove : Stmt := top 44
abbrev sSetKind : Stmt := top 45
abbrev sIsOperation : Stmt := top 48
abbrev sExecute : Stmt := top 49
abbrev sLiveRoad : Stmt := top 50
abbrev sLiveRoadInit : Stmt := inClass sLiveRoad 0
abbrev sLiveRoadJoin : Stmt := inClass sLiveRoad 1
abbrev sLiveRoadRemove : Stmt := inClass sLiveRoad 2
abbrev sLiveRoadSetKind : Stmt := inClass sLiveRoad 3
abbrev sLiveRoadApply : Stmt := inClass sLiveRoad 4
abbrev sLiveRoadReplay : Stmt := inClass sLiveRoad 5
abbrev sLiveRoadUndo : Stmt := inClass sLiveRoad 6
abbrev sLiveRoadRedo : Stmt := inClass sLiveRoad 7
abbrev sLiveRoadCheckNoBlock : Stmt := inClass sLiveRoad 8
abbrev sLiveRoadEnter : Stmt := inClass sLiveRoad 9
abbrev sLiveRoadExit : Stmt := inClass sLiveRoad 10
abbrev sLiveRoadArrivalsAfter : Stmt := inClass sLiveRoad 11
abbrev sLiveRoadDrive : Stmt := inClass sLiveRoad 12
abbrev sLiveRoadPosition : Stmt := inClass sLiveRoad 13
abbrev sLiveRoadPresentRoad : Stmt := inClass sLiveRoad 14
abbrev sLiveRoadPresentCars : Stmt := inClass sLiveRoad 15
abbrev sLiveRoadHistory : Stmt := inClass sLiveRoad 16
abbrev sLiveRoadContains : Stmt := inClass sLiveRoad 17
abbrev sLiveRoadLen : Stmt := inClass sLiveRoad 18
abbrev sTaken : Stmt := top 52
abbrev sUnits : Stmt := top 53
abbrev sSections : Stmt := top 54
abbrev sDriven : Stmt := top 55
abbrev sLess : Stmt := top 56
abbrev sRaised : Stmt := top 57
abbrev sDeed : Stmt := top 58
abbrev sDoes : Stmt := top 59
abbrev sAsked : Stmt := top 60
abbrev sTold : Stmt := top 61
abbrev sLaw : Stmt := top 62
end Sl

set_option Elab.async false
set_option linter.all false
set_option maxRecDepth 100000
set_option maxHeartbeats 1000000
namespace Sl
open PySem PySem.Spec L2 OwnR
theorem yes_of {σ : L2.St} {H : Hp} {A S : Hp → Prop} (h : A H) : tYes σ H (fun b H3 => if b = true then A H3 else S H3) := by
  show (if true = true then A H else S H)
  rw [if_pos rfl]
  exact h
/-- the module's names that the program asks: built-ins that stand, its constants -/
structure Mg (mg : Str → Option Value) : Prop where
  isinstance : mg "isinstance" = none
  int : mg "int" = none
  bool : mg "bool" = none
  str : mg "str" = none
  tuple : mg "tuple" = none
  len : mg "len" = none
  all : mg "all" = none
  enumerate : mg "enumerate" = none
  sorted : mg "sorted" = none
  list : mg "list" = none
  range : mg "range" = none
  sum : mg "sum" = none
  mostCars : ∃ t, mg "MOST_CARS" = some (.int 10 t)
  longestName : ∃ t, mg "LONGEST_NAME" = some (.int 8 t)
  latestStart : ∃ t, mg "LATEST_START" = some (.int 1000000 t)
  slowestPace : ∃ t, mg "SLOWEST_PACE" = some (.int 60 t)
  mostSections : ∃ t, mg "MOST_SECTIONS" = some (.int 12 t)
  longestSection : ∃ t, mg "LONGEST_SECTION" = some (.int 99 t)
theorem boot_isinstance : bootBuiltins "isinstance" = some (.builtin "isinstance") := by decide +kernel
theorem boot_tInt : bootBuiltins "int" = some (.type "int") := by decide +kernel
theorem boot_tBool : bootBuiltins "bool" = some (.type "bool") := by decide +kernel
theorem boot_tStr : bootBuiltins "str" = some (.type "str") := by decide +kernel
theorem boot_tTuple : bootBuiltins "tuple" = some (.type "tuple") := by decide +kernel
theorem boot_all : bootBuiltins "all" = some (.builtin "all") := by decide +kernel
section
variable {P : Program} {w : World} {K : PySem.W.Frag} {mg : Str → Option Value} {base : Heap}
/-! ### is_number of an int -/
def spIsNumber : Sp := fun vs H Q _ => ∃ i lo hi : Int, vs = [.int i, .int lo, .int hi] ∧ Q (.bl (decide (lo ≤ i) && decide (i ≤ hi))) H
theorem scIsNumber : FnScope ["value", "least", "most"] ["value", "least", "most"] (defScope sIsNumber) := ⟨rfl, rfl, rfl, by decide +kernel, rfl, by decide +kernel, by decide +kernel⟩
theorem ok_isNumber {f : Addr} {fd : FuncData} (F : Fun K "is_number" "is_number" sIsNumber f fd) (M : Mg mg) : FnOk P w K mg base CX0 1 f fd ["value", "least", "most"] spIsNumber := by
  refine F.ok scIsNumber (fun vs H Q E h => ?_) (fun cdv A outer s H vs Q E hr h => ?_)
  · obtain ⟨i, lo, hi, rfl, _⟩ := h
    rfl
  · obtain ⟨i, lo, hi, rfl, k⟩ := h
    refine ⟨_, pss_one (ps_ret (pe_and (pe_callB call_isi (by rfl) M.isinstance boot_isinstance (pa_cons (pv 0) (pa_cons (pe_bltn (v := .ty "int") (by rfl) M.int boot_tInt rfl) pa_nil)))
      (pe_and (pe_not (pe_callB call_isi (by rfl) M.isinstance boot_isinstance (pa_cons (pv 0) (pa_cons (pe_bltn (v := .ty "bool") (by rfl) M.bool boot_tBool rfl) pa_nil))))
        (pe_one (pe_chain op_le op_le (pv 1) (pv 0) (pv 2)))))), ?_⟩
    refine ⟨_, rfl, _, _, _, _, true, rfl, .ty _, .base (.int i), kit_ty (by decide +kernel), true, rfl, iteT ?_⟩
    refine ⟨_, rfl, _, _, _, _, false, rfl, .ty _, .base (.int i), kit_ty (by decide +kernel), false, rfl, true, rfl, iteT ?_⟩
    refine ⟨_, rfl, _, rfl, lo, i, rfl, rfl, _, rfl, ?_⟩
    by_cases h1 : lo ≤ i
    · rw [decide_eq_true h1] at k ⊢
      exact iteT ⟨_, rfl, i, hi, rfl, rfl, by simpa using k⟩
    · rw [decide_eq_false h1] at k ⊢
      exact iteF (by simpa using k)
theorem lt_one (a b : Nat) : decide ([a] < [b]) = decide (a < b) := by
  rw [decide_eq_decide]
  simp [List.cons_lt_cons_iff]
/-! ### is_name of a text that is a name -/
def NameOk (z : Str) : Prop := 1 ≤ z.length ∧ z.length ≤ 8 ∧ ∀ c ∈ z.cps.toList, 97 ≤ c ∧ c ≤ 122
def spIsName : Sp := fun vs H Q _ => ∃ z : Str, vs = [.str z] ∧ NameOk z ∧ ∀ H', Same H H' → Q (.bl true) H'
theorem scIsName : FnScope ["value", "letter"] ["value"] (defScope sIsName) := ⟨rfl, rfl, rfl, by decide +kernel, rfl, by decide +kernel, by decide +kernel⟩
theorem ok_isName {f : Addr} {fd : FuncData} (F : Fun K "is_name" "is_name" sIsName f fd) (M : Mg mg) : FnOk P w K mg base CX0 1 f fd ["value"] spIsName := by
  obtain ⟨t8, M8⟩ := M.longestName
  refine F.ok scIsName (fun vs H Q E h => ?_) (fun cdv A outer s H vs Q E hr h => ?_)
  · obtain ⟨z, rfl, _⟩ := h
    rfl
  · obtain ⟨z, rfl, ⟨z1, z8, zc⟩, k⟩ := h
    have nd := scIsName.nd
    refine ⟨_, pss_cons (ps_if (PW.pt (pw_or (pt_not (pt_val (pe_callB call_isi (by rfl) M.isinstance boot_isinstance (pa_cons (pv 0) (pa_cons (pe_bltn (v := .ty "str") (by rfl) M.str boot_tStr rfl) pa_nil)))))
        (pw_or1 (pt_not (pt_chain op_le op_le pe_int (pe_callB call_len_str (by rfl) M.len boot_len (pa_cons (pv 0) pa_nil)) (pe_glob (v := .int 8) (by rfl) M8 ⟨_, rfl⟩)))))) (pss_one (ps_ret pe_bl)) pss_nil)
      (pss_one (ps_ret (pe_callB (cr_all rfl) (by rfl) M.all boot_all (pa_cons (pe_lc (own := [("letter", 1)]) (g := gName 1) (tt := tYes) (by rfl) nd (pi_str (pv 0)) (blkOk_by (N := ["value", "letter"]) (sc := defScope sIsName) (by decide +kernel))
        (fun _ _ _ _ _ => pg_name (i := 1) nd rfl (Or.inl rfl)) (fun _ _ _ _ _ => pts_nil) (fun _ _ _ _ _ => pe_chain op_le_str op_le_str pe_str (pv 1) pe_str)) pa_nil)))), ?_⟩
    have hz : z.length ≤ sizeLine := Nat.le_trans z8 (by decide)
    have e1 : decide ((1 : Int) ≤ (z.length : Nat)) = true := decide_eq_true (by omega)
    have e8 : decide (((z.length : Nat) : Int) ≤ 8) = true := decide_eq_true (by omega)
    refine ⟨_, rfl, _, _, _, _, true, rfl, .ty _, .base (.str z), kit_ty (by decide +kernel), true, rfl, iteF ?_⟩
    refine ⟨_, rfl, z, rfl, hz, 1, (z.length : Nat), rfl, rfl, _, rfl, ?_⟩
    rw [e1]
    refine iteT ⟨(z.length : Nat), 8, rfl, rfl, true, congrArg V.bl e8, iteF ?_⟩
    refine ⟨_, rfl, z, rfl, fun D hD => lc_it walk_str (fun i H1 => (∀ b o, H b = some o → H1 b = some o) ∧ H1 D = some (.lst (List.replicate i (.bl true)))) ⟨fun b o e => by rw [upd_ne (ne_of_none e hD)]; exact e, upd_same⟩ (fun _ _ _ _ => True.intro) ?_ ?_⟩
    · rintro i x H1 H2 hi ⟨hk, hl⟩ ⟨e, c, hc, ex⟩
      subst e ex
      have hm : c ∈ z.cps.toList := by
        rw [Array.mem_toList_iff]
        exact Array.mem_of_getElem? hc
      have g1 : (!decide ((⟨#[c]⟩ : Str).cps.toList < ("a" : Str).cps.toList)) = true := by
        have e2 : ("a" : Str).cps.toList = [97] := by decide +kernel
        rw [e2]
        have := (zc c hm).1
        show (!decide (([c] : List Nat) < [97])) = true
        rw [lt_one, decide_eq_false (by omega)]
        rfl
      have g2 : (!decide (("z" : Str).cps.toList < (⟨#[c]⟩ : Str).cps.toList)) = true := by
        have e2 : ("z" : Str).cps.toList = [122] := by decide +kernel
        rw [e2]
        have := (zc c hm).2
        show (!decide (([122] : List Nat) < [c])) = true
        rw [lt_one, decide_eq_false (by omega)]
        rfl
      refine ⟨rfl, ?_⟩
      refine yes_of ?_
      refine ⟨_, rfl, _, _, rfl, rfl, true, congrArg V.bl g1, ?_⟩
      refine iteT ?_
      refine ⟨_, _, rfl, rfl, ?_⟩
      rw [g2]
      refine ⟨_, hl, ?_, fun b o e => by rw [upd_ne (ne_of_none e hD)]; exact hk b o e, ?_⟩
      · rw [List.length_replicate]
        have : z.cps.size ≤ 8 := z8
        exact Nat.lt_of_lt_of_le (Nat.lt_of_lt_of_le hi this) (by decide)
      · rw [upd_same, ← List.replicate_succ']
    · rintro H1 ⟨hk, hl⟩
      refine ⟨D, List.replicate z.cps.size true, rfl, ?_, ?_⟩
      · rw [List.map_replicate]
        exact SqL.of hl
      · have e3 : (List.replicate z.cps.size true).all id = true := by simp
        rw [e3]
        exact k H1 hk
end
end Sl

set_option Elab.async false
set_option linter.all false
set_option maxRecDepth 100000
set_option maxHeartbeats 1000000
namespace Sl
open PySem PySem.Spec L2 OwnR
/-- a def of the module, as callers want it -/
structure Fb (K : PySem.W.Frag) (mg : Str → Option Value) (x : Str) (st : Stmt) (ps : List Str) (f : Addr) (fd : FuncData) : Prop where
  fn : Fun K x x st f fd
  at_ : mg x = some (.ref f)
  bd : Binds K fd ps []
section
variable {P : Program} {w : World} {K : PySem.W.Frag} {mg : Str → Option Value} {base : Heap}
/-! ### is_car of a tuple that is a car -/
structure Car where
  name : Str
  start : Int
  pace : Int
def Car.vs (c : Car) : List V := [.str c.name, .int c.start, .int c.pace]
structure Car.Ok (c : Car) : Prop where
  nm : NameOk c.name
  s0 : 0 ≤ c.start
  s1 : c.start ≤ 1000000
  p0 : 1 ≤ c.pace
  p1 : c.pace ≤ 60
def spIsCar : Sp := fun vs H Q _ => ∃ (t : Addr) (c : Car), vs = [.ref t] ∧ H t = some (.tup c.vs) ∧ c.Ok ∧ ∀ H', Same H H' → Q (.bl true) H'
theorem scIsCar : FnScope ["value", "name", "start", "pace"] ["value"] (defScope sIsCar) := ⟨rfl, rfl, rfl, by decide +kernel, rfl, by decide +kernel, by decide +kernel⟩
theorem ok_isCar {f fN fB : Addr} {fd dN dB : FuncData} (F : Fb K mg "is_car" sIsCar ["value"] f fd) (M : Mg mg) (BN : Fb K mg "is_name" sIsName ["value"] fN dN) (BB : Fb K mg "is_number" sIsNumber ["value", "least", "most"] fB dB)
    (GN : FnOk P w K mg base CX0 1 fN dN ["value"] spIsName) (GB : FnOk P w K mg base CX0 1 fB dB ["value", "least", "most"] spIsNumber) : FnOk P w K mg base CX0 2 f fd ["value"] spIsCar := by
  obtain ⟨t1, M1⟩ := M.latestStart
  obtain ⟨t2, M2⟩ := M.slowestPace
  refine F.fn.ok scIsCar (fun vs H Q E h => ?_) (fun cdv A outer s H vs Q E hr h => ?_)
  · obtain ⟨t, c, rfl, _⟩ := h
    rfl
  · obtain ⟨t, c, rfl, ht, C, k⟩ := h
    have nd := scIsCar.nd
    refine ⟨_, pss_cons (ps_if (PW.pt (pw_or (pt_not (pt_val (pe_callB call_isi (by rfl) M.isinstance boot_isinstance (pa_cons (pv 0) (pa_cons (pe_bltn (v := .ty "tuple") (by rfl) M.tuple boot_tTuple rfl) pa_nil)))))
        (pw_or1 (pt_cmpR op_ne (pe_callB call_len_seq (by rfl) M.len boot_len (pa_cons (pv 0) pa_nil)) pe_int (nomark _))))) (pss_one (ps_ret pe_bl)) pss_nil)
      (pss_cons (ps_asg (pv 0) (pg_tup (by rfl) (pgs_cons (pg_name (i := 1) nd rfl (.inl rfl)) (pgs_cons (pg_name (i := 2) nd rfl (.inl rfl)) (pgs_cons (pg_name (i := 3) nd rfl (.inl rfl)) pgs_nil)))))
      (pss_one (ps_ret (pe_and (pe_call GN hr (by rfl) BN.at_ BN.fn.kp BN.bd .nil pass0 (pa_cons (pv 1) pa_nil))
        (pe_and (pe_call GB hr (by rfl) BB.at_ BB.fn.kp BB.bd .nil pass0 (pa_cons (pv 2) (pa_cons pe_int (pa_cons (pe_glob (v := .int 1000000) (by rfl) M1 ⟨_, rfl⟩) pa_nil))))
          (pe_one (pe_call GB hr (by rfl) BB.at_ BB.fn.kp BB.bd .nil pass0 (pa_cons (pv 3) (pa_cons pe_int (pa_cons (pe_glob (v := .int 60) (by rfl) M2 ⟨_, rfl⟩) pa_nil)))))))))), ?_⟩
    refine ⟨_, rfl, _, _, _, _, true, rfl, .ty _, .base (.tup ht), kit_ty (by decide +kernel), true, rfl, iteF ?_⟩
    refine ⟨_, rfl, t, _, rfl, .inr (SqT.of ht), rfl, false, rfl, iteF ?_⟩
    refine ⟨_, rfl, t, c.vs, rfl, SqT.of ht, rfl, _, _, rfl, _, _, rfl, _, _, rfl, rfl, ?_⟩
    refine ⟨_, rfl, c.name, rfl, C.nm, fun H1 s1 => ⟨true, rfl, iteT ?_⟩⟩
    refine ⟨_, rfl, c.start, 0, 1000000, rfl, true, ?_, iteT ?_⟩
    · rw [decide_eq_true C.s0, decide_eq_true C.s1]
      rfl
    refine ⟨_, rfl, c.pace, 1, 60, rfl, ?_⟩
    rw [decide_eq_true C.p0, decide_eq_true C.p1]
    exact k H1 s1
/-! ### check_cars of a tuple of cars -/
def CarsAt (H : Hp) (a : Addr) (cars : List Car) : Prop := ∃ ts : List Addr, H a = some (.tup (ts.map V.ref)) ∧ ts.length = cars.length ∧ ∀ (i : Nat) (t : Addr) (c : Car), ts[i]? = some t → cars[i]? = some c → H t = some (.tup c.vs)
structure CarsOk (cars : List Car) : Prop where
  all : ∀ c ∈ cars, c.Ok
  nd : (cars.map (·.name)).Nodup
  few : cars.length ≤ 10
theorem CarsAt.same {H H' : Hp} {a : Addr} {cars : List Car} (h : CarsAt H a cars) (e : Same H H') : CarsAt H' a cars := by
  obtain ⟨ts, h1, h2, h3⟩ := h
  exact ⟨ts, e _ _ h1, h2, fun i t c e1 e2 => e _ _ (h3 i t c e1 e2)⟩
end
end Sl

set_option Elab.async false
set_option linter.all false
set_option maxRecDepth 100000
set_option maxHeartbeats 2000000
namespace OwnR
open PySem PySem.Spec PyProof.Rows L2
/-! ### enumerate(t), t a tuple -/
abbrev enumObj (n : Nat) : Obj := { cls := .type "enumerate", data := .fields #[.none, .bool false, .ref n, rawInt 0, .none, .none] }
theorem enum_make {v : Value} {o : Obj} {G : Heap → Prop} (B : Begins v o G) : Meets (Builtin.«enumerate.__new__» ⟨[.type "enumerate", v], []⟩) (fun _ R s => G s.heap ∧ R (.ok (.ret (.ref (s.heap.push o).objs.size))) { s with heap := (s.heap.push o).push (enumObj s.heap.objs.size) }) := by
  refine .of_wp fun prog w A R s hs => ?_
  obtain ⟨hp, g, d, tk, os⟩ := s
  obtain ⟨hG, hR⟩ := hs
  have isE := sub_enumerate
  have it1 : ∀ {A' : Around} {E' Q' : Value → Shared → Prop}, Q' (.ref hp.objs.size) ⟨hp.push o, g, d, tk, os⟩ → wpAny (model prog w) A' (pyIter v) (fun a b => Q' a b) (fun a b => E' a b) ⟨hp, g, d, tk, os⟩ := fun q => B.iter prog w _ _ ⟨hp, g, d, tk, os⟩ _ hG q
  wp_walk using it1
  refine wpAny_stack_any fun st => wpAny_pure ?_
  split
  · rename_i c _ _ _ _ _
    cases (c == Value.type "enumerate") <;> (wp_walk using it1; exact ⟨_, rfl, hR⟩)
  · wp_walk using it1
    exact ⟨_, rfl, hR⟩
section
variable {prog : Program} {w : World} {A : Around} {E : Value → Shared → Prop} {s : Shared}
theorem enum_tuple {t : Addr} {items : Array Value} {Q : Value → Shared → Prop} (ht : s.heap.IsTuple t items)
    (h : ∀ h', IsEnum h' (s.heap.objs.size + 1) s.heap.objs.size 0 .none → h'.IsTupleIter s.heap.objs.size t 0 → (∀ b o, s.heap.get? b = some o → h'.get? b = some o) → Q (.ref (s.heap.objs.size + 1)) { s with heap := h' }) :
    wpAny (model prog w) A (call (.type "enumerate") [.ref t]) Q E s := by
  have sz : ∀ o : Obj, (s.heap.push o).objs.size = s.heap.objs.size + 1 := fun o => Heap.size_push ..
  refine callType_new F.called_enumerate (by decide) (F.typeCall_enumerate_1 _) (F.newCall_enumerate_1 _) (fun _ => F.args_object_init_2 _ _) F.entry_enumerate_new (enum_make (begins_tuple t items)) ⟨ht, ?_⟩
  have he : ((s.heap.push { cls := .type "tuple_iterator", data := .fields #[.ref t, .int 0 0] }).push (enumObj s.heap.objs.size)).get? (s.heap.objs.size + 1) = some (enumObj s.heap.objs.size) := by
    have q := Heap.get?_push_size (s.heap.push { cls := .type "tuple_iterator", data := .fields #[.ref t, .int 0 0] }) (o := enumObj s.heap.objs.size) rfl
    rw [sz] at q
    exact q
  show _ ∧ _
  rw [sz]
  exact ⟨⟨_, he, rfl⟩, h _ he ⟨_, Heap.get?_push_of_some _ (Heap.get?_push_size _ rfl), rfl, rfl⟩ fun b o x => Heap.get?_push_of_some _ (Heap.get?_push_of_some _ x)⟩
end
/-- the tuple at a as it stands at each turn, each item in a new pair -/
def IteT (K : PySem.W.Frag) (a : Addr) (N : Nat) : It :=
  ⟨fun i H => ∃ (xs : List V) (x : V), SqT K H a xs ∧ xs[i]? = some x ∧ xs.length = N,
   fun i H v H' => ∃ T x, v = .ref T ∧ H T = none ∧ H' = upd H T (.tup [.int (i : Nat), x]) ∧ ∀ xs, SqT K H a xs → xs[i]? = some x,
   fun i H => ∃ xs : List V, SqT K H a xs ∧ xs.length ≤ i ∧ xs.length = N⟩
theorem tup_ne {h : Heap} {a it : Addr} {items : Array Value} {i : Nat} (p : h.IsTuple a items) (q : h.IsTupleIter it a i) : a ≠ it := by
  intro e
  obtain ⟨o, ho, hc, _⟩ := p
  obtain ⟨o', ho', hc', _⟩ := q
  rw [e, ho'] at ho
  cases ho
  rw [hc'] at hc
  injection hc with z
  exact absurd z (by decide)
theorem turn_enumT {P : Program} {w : World} {K : PySem.W.Frag} {elts : List Expr} {kk : Nat} {tpos : Pos} (a e it : Addr) (N : Nat) (nea : e ≠ a) :
    Turn P w K (.Tuple elts kk tpos) (IteT K a N) [e, it] e (fun i h => (∃ old, IsEnum h e it ((i : Nat) : Int) old) ∧ h.IsTupleIter it a i ∧ e ≠ it ∧ i ≤ N) where
  mem := List.mem_cons_self
  obj := fun i h st b hb => by
    obtain ⟨⟨old, he⟩, ⟨o, ho, hc, hd⟩, _⟩ := st
    rcases List.mem_cons.mp hb with z | z
    · exact ⟨_, by rw [z]; exact he, fun v q => by cases q⟩
    · exact ⟨o, by rw [List.mem_singleton.mp z]; exact ho, fun v q => by rw [hd] at q; cases q⟩
  keep := fun i h h' st k => by
    obtain ⟨⟨old, he⟩, ⟨o, ho, r⟩, hne, le⟩ := st
    exact ⟨⟨old, k e (by simp) _ he⟩, ⟨o, k it (by simp) o ho, r⟩, hne, le⟩
  item := by
    intro X hP hw hK hc i pins s σ H E I hf st hg
    subst hP hw hK
    obtain ⟨⟨old, he⟩, hit, hne, le⟩ := st
    obtain ⟨xs, x, hq, hx, eN⟩ := hg
    obtain ⟨its, rv, p, hz⟩ := I.tuple hq
    obtain ⟨u, hu, ru⟩ := rv.get hx
    have lo : i < its.toArray.size := by
      rw [List.size_toArray]
      exact (List.getElem?_eq_some_iff.mp hu).1
    have hel : e < s.heap.objs.size := Heap.lt_size he
    have hil : it < s.heap.objs.size := by
      obtain ⟨_, q, _⟩ := hit
      exact Heap.lt_size q
    have hd : X.A.in1.handled = none := I.ok.hd hc
    have D := Draws.tuple (prog := X.prog) (w := X.w) hd it a (tup_ne p hit) its.toArray
    refine wpAny_pyNext_enum_itemC D he ⟨hit, p⟩ lo hne (by simp [hne, nea]) fun y h' tk hy ho st2 hT hsz hk => ⟨_, rfl, wpAny_letOwnedTupleGo_enum (s := { s with heap := h', toks := tk + 1 }) ho fun h2 he2 sb => ?_⟩
    have ey : y = u := by
      have hy : its.toArray[i]? = some y := hy
      have : its[i]? = some y := by simpa using hy
      rw [hu] at this
      exact (Option.some.inj this).symm
    subst ey
    have hT2 : h2.get? s.heap.objs.size = some { cls := .type "tuple", data := .seq #[.int i tk, y] } := (sb.2 _ (Nat.ne_of_gt hel)).trans hT
    have new : ObjOk X.prog X.w (upd H s.heap.objs.size (.tup [.int (i : Nat), x])) h2 s.heap.objs.size (.tup [.int (i : Nat), x]) :=
      ⟨by show 2 ≤ sizeLine; decide, [.int i tk, y], .cons ⟨_, rfl⟩ (.cons ru .nil), ⟨_, hT2, rfl, _, rfl⟩⟩
    have J : Inv X pins σ (upd H s.heap.objs.size (.tup [.int (i : Nat), x])) { s with heap := h2, toks := tk + 1 } :=
      I.turnedNew (ch := [e, it]) (fun b ob hb q => (sb.2 b (fun z => hb (by simp [z]))).trans (hk b ob (fun z => hb (by simp [z])) (fun z => hb (by simp [z])) q)) hf (Nat.le_refl _) new
    have hi2 : h2.IsTupleIter it a (i + 1) := by
      obtain ⟨⟨o, h1, h3⟩, _⟩ := st2
      exact ⟨o, (sb.2 it (Ne.symm hne)).trans h1, h3⟩
    refine ⟨.ref s.heap.objs.size, _, J, rfl, ⟨_, x, rfl, I.hok.fresh (Nat.le_refl _), rfl, fun ys hy => by rw [I.tuple_inj hy hq]; exact hx⟩, ⟨⟨y, ?_⟩, hi2, hne, by have := (List.getElem?_eq_some_iff.mp hx).1; omega⟩, fun b hb => ?_⟩
    · rw [show ((i + 1 : Nat) : Int) = (i : Int) + 1 by omega]
      exact he2
    · have hb' : b < s.heap.objs.size := by
        rcases List.mem_cons.mp hb with z | z
        · rw [z]; exact hel
        · rw [List.mem_singleton.mp z]; exact hil
      rw [upd_ne (Nat.ne_of_lt hb')]
      exact (hf b hb).1
  done := by
    intro X hP hw hK hc i pins s σ H E I hf st hg
    subst hP hw hK
    obtain ⟨⟨old, he⟩, hit, hne, le⟩ := st
    obtain ⟨xs, hq, hx, eN⟩ := hg
    obtain ⟨its, rv, p, hz⟩ := I.tuple hq
    obtain ⟨f0, f1, f2, f3, f4, f5⟩ := hf it (by simp)
    have hl := rv.length
    have hd : X.A.in1.handled = none := I.ok.hd hc
    have D := Draws.tuple (prog := X.prog) (w := X.w) hd it a (tup_ne p hit) its.toArray
    have ei : i = its.toArray.size := by
      rw [List.size_toArray]
      omega
    rw [ei] at hit he
    exact wpAny_pyNext_enum_endD D he ⟨hit, p⟩ fun h' eb => ⟨rfl, I.turned (t' := s.toks) (fun b o hb q => eb b o hb q) f0 f1 f3 f4 f5⟩
  self := fun A i s Q E st h => let ⟨⟨_, he⟩, _⟩ := st; wpAny_pyIter_enum he h
def iEnumT (K : PySem.W.Frag) (ta : TA) : TI := fun σ H R => ta σ H fun vs H1 => ∃ a xs, vs = [.ref a] ∧ SqT K H1 a xs ∧ R (IteT K a xs.length) H1
theorem pi_enumT {X : Cx} {e : Expr} {ta : TA} {p pos tpos : Pos} {elts : List Expr} {kk : Nat} (hg : Gl X "enumerate") (hm : X.mg "enumerate" = none) (ha : PA X [e] ta) (hs : starEach [e] X.env = [(false, eval e X.env)] := by rfl) :
    PI X (.Tuple elts kk tpos) (.Call (.Name "enumerate" p) [e] [] pos) (iEnumT X.K ta) := by
  refine ⟨fun pins s σ H R I h => ?_⟩
  refine Call_ (ld_blt I hg hm boot_enumerate (PyProof.Rows.callWith_type1 (thn (ha.run pos pins s σ H _ I h) fun us s1 ⟨vs, H1, I1, r1, a, xs, ex, hq, q⟩ => ?_) hs rfl))
  subst ex
  obtain ⟨u, rfl, ru⟩ := r1.one
  cases (show u = Value.ref a from ru)
  obtain ⟨its, rv, p', hz⟩ := I1.tuple hq
  refine enum_tuple (items := its.toArray) p' fun h' he hit hk => wpAny_pyIter_enum he ?_
  have I2 : Inv X pins σ H1 { s1 with heap := h' } := I1.kept (t' := s1.toks) hk
  have la : a < s1.heap.objs.size := by
    obtain ⟨o, ho, _⟩ := p'
    exact Heap.lt_size ho
  refine ⟨s1.heap.objs.size + 1, [s1.heap.objs.size + 1, s1.heap.objs.size], _, _, H1, rfl, I2, turn_enumT a (s1.heap.objs.size + 1) s1.heap.objs.size xs.length (Nat.ne_of_gt (Nat.lt_succ_of_lt la)), ⟨⟨.none, he⟩, hit, Nat.succ_ne_self _, Nat.zero_le _⟩, fun b hb => ?_, q⟩
  have hle : s1.heap.objs.size ≤ b := by
    rcases List.mem_cons.mp hb with z | z
    · rw [z]
      exact Nat.le_succ _
    · rw [List.mem_singleton.mp z]
      exact Nat.le_refl _
  exact I1.fpOk hle (I1.hok.fresh hle)
theorem walk_enumT {K : PySem.W.Frag} {a : Addr} {xs : List V} : Walk (IteT K a xs.length) xs.length (fun H => SqT K H a xs) (YPair (fun i => some (.int (i : Nat))) fun i => xs[i]?) :=
  ⟨fun i _ hi q => ⟨xs, xs[i], q, by simp [hi], rfl⟩, fun _ q => ⟨xs, q, Nat.le_refl _, rfl⟩, fun i H x H' hi q y => by
    obtain ⟨T, z, e1, e2, e3, e4⟩ := y
    exact ⟨T, .int (i : Nat), z, e1, e2, e3, rfl, e4 xs q⟩⟩
end OwnR

set_option Elab.async false
set_option linter.all false
set_option maxRecDepth 100000
set_option maxHeartbeats 1000000
namespace Sl
open PySem PySem.Spec L2 OwnR
theorem eqV_str (a b : Str) : eqV (.str a) (.str b) = decide (a = b) := by
  show (a == b) = decide (a = b)
  by_cases h : a = b
  · rw [h]; simp
  · rw [decide_eq_false h]; simpa using h
theorem inV_str (x : Str) (l : List Str) : inV (.str x) (l.map V.str) = decide (x ∈ l) := by
  unfold inV
  induction l with
  | nil => simp
  | cons y r ih =>
    rw [List.map_cons, List.any_cons, ih, eqV_str]
    by_cases h : y = x
    · subst h; simp
    · have h2 : ¬ x = y := fun z => h z.symm
      simp [h, h2]
theorem tk1 {α : Type} {l : List α} {i : Nat} {x : α} (h : l[i]? = some x) : l.take (i + 1) = l.take i ++ [x] := by
  rw [List.take_add_one, h]
  rfl
theorem flat_strs (l : List Str) : (l.map V.str).all flatV = true := by
  induction l with
  | nil => rfl
  | cons y r ih => rw [List.map_cons, List.all_cons, ih]; rfl
section
variable {P : Program} {w : World} {K : PySem.W.Frag} {mg : Str → Option Value} {base : Heap}
def spCheckCars : Sp := fun vs H Q _ => ∃ (a : Addr) (cars : List Car), vs = [.ref a] ∧ CarsAt H a cars ∧ CarsOk cars ∧ ∀ H', Same H H' → Q .non H'
theorem scCheckCars : FnScope ["cars", "names", "index", "car"] ["cars"] (defScope sCheckCars) := ⟨rfl, rfl, rfl, by decide +kernel, rfl, by decide +kernel, by decide +kernel⟩
theorem ok_checkCars {f fC : Addr} {fd dC : FuncData} (F : Fb K mg "check_cars" sCheckCars ["cars"] f fd) (M : Mg mg) (BC : Fb K mg "is_car" sIsCar ["value"] fC dC)
    (GC : FnOk P w K mg base CX0 2 fC dC ["value"] spIsCar) : FnOk P w K mg base CX0 3 f fd ["cars"] spCheckCars := by
  obtain ⟨t1, M1⟩ := M.mostCars
  refine F.fn.ok scCheckCars (fun vs H Q E h => ?_) (fun cdv A outer s H vs Q E hr h => ?_)
  · obtain ⟨t, c, rfl, _⟩ := h
    rfl
  · obtain ⟨a, cars, rfl, ⟨ts, ha, hlen, hcar⟩, C, k⟩ := h
    have nd := scCheckCars.nd
    refine ⟨_, pss_cons (ps_if (pt_not (pt_val (pe_callB call_isi (by rfl) M.isinstance boot_isinstance (pa_cons (pv 0) (pa_cons (pe_bltn (v := .ty "tuple") (by rfl) M.tuple boot_tTuple rfl) pa_nil))))) (pss_one ps_never) pss_nil)
      (pss_cons (ps_set (i := 1) nd rfl (.inl rfl) (pe_lst pa_nil))
      (pss_one (ps_for PassesOwn.never rfl (pi_enumT (by rfl) M.enumerate (pa_cons (pv 0) pa_nil)) (pg_tup rfl (pgs_cons (pg_name (i := 2) nd rfl (.inl rfl)) (pgs_cons (pg_name (i := 3) nd rfl (.inl rfl)) pgs_nil)))
        (pss_cons (ps_if (PW.pt (pw_or (pt_cmpR op_eq (pv 2) (pe_glob (v := .int 10) (by rfl) M1 ⟨_, rfl⟩) (nomark _)) (pw_or (pt_not (pt_val (pe_call GC hr (by rfl) BC.at_ BC.fn.kp BC.bd .nil pass0 (pa_cons (pv 3) pa_nil))))
            (pw_or1 (pt_cmpR op_in_seq (pe_ix ix_tup (pv 3) pe_int (fun _ _ => rfl)) (pv 1) (by rfl)))))) (pss_one ps_never) pss_nil)
          (pss_one (ps_expr (pe_bm PySem.F.plainAttrs_list PySem.F.slot_list_append PySem.F.type_list_append mt_append (pv 1) (pa_cons (pe_ix ix_tup (pv 3) pe_int (fun _ _ => rfl)) pa_nil)))))))), ?_⟩
    refine ⟨_, rfl, _, _, _, _, true, rfl, .ty _, .base (.tup ha), kit_ty (by decide +kernel), true, rfl, iteF ?_⟩
    refine ⟨Nat.zero_le _, fun l hl => ?_⟩
    have hts : (ts.map V.ref).length = cars.length := by rw [List.length_map, hlen]
    refine ⟨_, rfl, a, ts.map V.ref, rfl, SqT.of (by rw [upd_ne (ne_of_none ha hl)]; exact ha), for_it walk_enumT
      (fun i σ H1 => ∃ v2 v3, σ = [some (.ref a), some (.ref l), v2, v3] ∧ Same H H1 ∧ H1 l = some (.lst (((cars.take i).map (·.name)).map V.str)))
      ⟨none, none, rfl, fun b o e => by rw [upd_ne (ne_of_none e hl)]; exact e, upd_same⟩ (fun i σ H1 _ ⟨_, _, _, s1, _⟩ => SqT.of (s1 _ _ ha)) ?_ ?_⟩
    · rintro i x σ H1 H2 hi ⟨v2, v3, rfl, s1, hL⟩ ⟨T, x1, x2, rfl, hT, rfl, e1, e2⟩
      cases e1
      have hic : i < cars.length := by rw [hts] at hi; exact hi
      obtain ⟨t, ht, rfl⟩ : ∃ t, ts[i]? = some t ∧ x2 = V.ref t := by
        have e2 : (ts.map V.ref)[i]? = some x2 := e2
        rw [List.getElem?_map] at e2
        obtain ⟨t, z1, z2⟩ := Option.map_eq_some_iff.mp e2
        exact ⟨t, z1, z2.symm⟩
      have hc : cars[i]? = some cars[i] := List.getElem?_eq_getElem hic
      have hct := hcar i t _ ht hc
      have sT : Same H1 (upd H1 T (.tup [.int (i : Nat), .ref t])) := fun b o e => by rw [upd_ne (ne_of_none e hT)]; exact e
      have h2 := sT _ _ (s1 _ _ hct)
      have C0 := C.all _ (List.getElem_mem hic)
      refine ⟨T, _, rfl, SqT.of upd_same, rfl, _, _, rfl, _, _, rfl, rfl, ?_⟩
      refine ⟨_, rfl, rfl, _, rfl, ?_⟩
      have ne10 : ¬ (V.int (i : Nat) = V.int 10) := fun z => by
        injection z with z
        have := C.few
        omega
      rw [decide_eq_false ne10]
      refine iteF ?_
      refine ⟨_, rfl, t, cars[i], rfl, h2, C0, fun H3 s3 => ⟨true, rfl, iteF ?_⟩⟩
      refine ⟨_, rfl, t, _, 0, .str cars[i].name, rfl, rfl, SqT.of (s3 _ _ h2), rfl, _, rfl, l, _, rfl, .inl (SqL.of (s3 _ _ (sT _ _ hL))), rfl, flat_strs _, false, ?_, iteF ?_⟩
      · rw [inV_str]
        have : ¬ cars[i].name ∈ (cars.take i).map (·.name) := fun hm => by
          obtain ⟨j, hj⟩ := List.mem_iff_getElem?.mp hm
          rw [List.getElem?_map] at hj
          obtain ⟨c', hc', en⟩ := Option.map_eq_some_iff.mp hj
          have hj2 : j < i := by
            have := (List.getElem?_eq_some_iff.mp hc').1
            rw [List.length_take] at this
            omega
          rw [List.getElem?_take_of_lt hj2] at hc'
          have a1 : (cars.map (·.name))[j]? = some cars[i].name := by rw [List.getElem?_map, hc']; exact congrArg some en
          have a2 : (cars.map (·.name))[i]? = some cars[i].name := by rw [List.getElem?_map, hc]; rfl
          have := nd_ix C.nd a1 a2
          omega
        rw [decide_eq_false this]
        rfl
      · have hl3 := s3 _ _ (sT _ _ hL)
        refine ⟨_, rfl, .inl ⟨rfl, _, SqL.of hl3⟩, _, rfl, t, _, 0, .str cars[i].name, rfl, rfl, SqT.of (s3 _ _ h2), rfl, l, _, _, rfl, rfl, hl3, ?_, ?_⟩
        · rw [List.length_map, List.length_map, List.length_take]
          have := C.few
          exact small1000 (by omega)
        · refine ⟨_, _, rfl, fun b o e => ?_, ?_⟩
          · rw [upd_ne (ne_of_none e hl)]
            exact s3 _ _ (sT _ _ (s1 _ _ e))
          · rw [upd_same, tk1 hc, List.map_append, List.map_append]
            rfl
    · rintro σ H1 ⟨v2, v3, rfl, s1, hL⟩
      exact k H1 s1
end
end Sl

set_option Elab.async false
set_option linter.all false
set_option maxRecDepth 100000
set_option maxHeartbeats 1000000
namespace Sl
open PySem PySem.Spec L2 OwnR LamX
/-- a def whose code object's address is known -/
structure FunC (K : PySem.W.Frag) (x qual : Str) (st : Stmt) (f : Addr) (fd : FuncData) (c : Addr) : Prop where
  ex : ∃ (oc : Value) (od : Option Addr) (kV doc pm : Value) (an : Option Addr) (ct : Value) (osl : Array (Option Value)),
    fd = PySem.W.fnOf x qual (defArgs st) (defBody st) (defScope st) .none kV doc pm an (.ref c) ct ∧ K.lookup f = some ⟨oc, od, .func fd, osl⟩ ∧ PySem.W.codeIn K (.ref c) qual = true
  kp : PySem.W.keepIn K (.ref f) = true
section
variable {P : Program} {w : World} {K : PySem.W.Frag} {mg : Str → Option Value} {base : Heap}
theorem FunC.ok {x qual : Str} {st : Stmt} {f c : Addr} {fd : FuncData} {N ps : List Str} {k : Nat} {sp : Sp} (F : FunC K x qual st f fd c) (S : FnScope N ps (defScope st)) (len : ∀ vs H Q E, sp vs H Q E → vs.length = ps.length)
    (hbody : ∀ (A : Around) (outer : List Env) (s : Shared) (H : Hp) (vs : List V) (Q : VK) (E : XK), Room k (A.deeper (PyProof.Rows.envOfC qual (defScope st) s.heap.objs.size f (.ref c))) → sp vs H Q E →
      ∃ t, PSs (cxOf CX0 P w K mg base N qual (defScope st) f (.ref c) A outer s H E).nox (defBody st) t ∧ t { nx := fun _ H' => Q .non H', rt := Q } (start N vs) H) : FnOk P w K mg base CX0 (k + 1) f fd ps sp := by
  obtain ⟨oc, od, kV, doc, pm, an, ct, osl, rfl, lk, hcd⟩ := F.ex
  refine fn_of lk hcd S len fun A outer s H vs Q E hr hsp => ?_
  obtain ⟨t, h, q⟩ := hbody A outer s H vs Q E hr hsp
  exact ⟨t, h.nox, q⟩
structure FbC (K : PySem.W.Frag) (mg : Str → Option Value) (x : Str) (st : Stmt) (ps : List Str) (f : Addr) (fd : FuncData) (c : Addr) : Prop where
  fn : FunC K x x st f fd c
  at_ : mg x = some (.ref f)
  bd : Binds K fd ps []
/-- what stands behind a step that may have made code objects -/
theorem ExtN.same {H H' : Hp} (e : Same H H') : ExtN H H' := fun b o h _ => e b o h
theorem ExtN.lst {H H' : Hp} (e : ExtN H H') {a : Addr} {xs : List V} (h : H a = some (.lst xs)) : H' a = some (.lst xs) := e _ _ h (fun _ z => nomatch z)
theorem ExtN.tup {H H' : Hp} (e : ExtN H H') {a : Addr} {xs : List V} (h : H a = some (.tup xs)) : H' a = some (.tup xs) := e _ _ h (fun _ z => nomatch z)
theorem ExtN.dK {H H' : Hp} (e : ExtN H H') {a : Addr} {xs : List (Key × V)} (h : H a = some (.dK xs)) : H' a = some (.dK xs) := e _ _ h (fun _ z => nomatch z)
theorem ExtN.ins {H H' : Hp} (e : ExtN H H') {a C d : Addr} {xs : List (Str × V)} (h : H a = some (.ins C d xs)) : H' a = some (.ins C d xs) := e _ _ h (fun _ z => nomatch z)
theorem ExtN.sqT {H H' : Hp} (e : ExtN H H') {a : Addr} {xs : List V} (h : SqT K H a xs) : SqT K H' a xs := by
  rcases h with (h | ⟨o, h⟩) | h
  · exact .inl (.inl (e _ _ h fun _ z => nomatch z))
  · exact .inl (.inr ⟨o, e _ _ h fun _ z => nomatch z⟩)
  · exact .inr h
theorem ExtN.sqL {H H' : Hp} (e : ExtN H H') {a : Addr} {xs : List V} (h : SqL K H a xs) : SqL K H' a xs := by
  rcases h with (h | ⟨o, h⟩) | h
  · exact .inl (.inl (e _ _ h fun _ z => nomatch z))
  · exact .inl (.inr ⟨o, e _ _ h fun _ z => nomatch z⟩)
  · exact .inr h
theorem CarsAt.ext {H H' : Hp} {a : Addr} {cars : List Car} (h : CarsAt H a cars) (e : ExtN H H') : CarsAt H' a cars := by
  obtain ⟨ts, h1, h2, h3⟩ := h
  exact ⟨ts, ExtN.tup e h1, h2, fun i t c e1 e2 => ExtN.tup e (h3 i t c e1 e2)⟩
/-! ### _in_order -/
/-- nothing that was tracked, but tables, stands at D -/
def New (H : Hp) (D : Addr) : Prop := ∀ b o, H b = some o → (∀ ps, o ≠ .tbl ps) → b ≠ D
theorem New.of {H : Hp} {D : Addr} (h : H D = none) : New H D := fun b o e _ => ne_of_none e h
theorem New.ext {H H' : Hp} {D : Addr} (e : ExtN H H') (h : New H' D) : New H D := fun b o x n => h b o (e b o x n) n
theorem zip_self (tk : Str → Int) : ∀ names : List Str, (names.map tk).zip (names.map V.str) = (names.map fun n => (tk n, n)).map fun q => (q.1, V.str q.2)
  | [] => rfl
  | n :: r => by
    simp only [List.map_cons, List.zip_cons_cons]
    rw [zip_self tk r]
def qInOrder : Str := ("_in_order" : Str) ++ (".<locals>." : Str) ++ ("<lambda>" : Str)
def spInOrder (K : PySem.W.Frag) (T : List (Addr × Str)) : Sp := fun vs H Q _ => ∃ (p d : Addr) (names : List Str) (kvs : List (Key × V)) (tk : Str → Int), vs = [.ref p, .ref d] ∧ SqL K H p (names.map V.str) ∧ H d = some (.dK kvs) ∧
  (∀ n ∈ names, valV kvs (.inr n) = some (.int (tk n))) ∧ Tabs T H ∧ ∀ H' D, ExtN H H' → Tabs T H' → New H D → H' D = some (.lst ((sortBy tk names).map V.str)) → Q (.ref D) H'
theorem scInOrder : FnScope ["names", "ticks"] ["names", "ticks"] (defScope sInOrder) := ⟨rfl, rfl, rfl, by decide +kernel, rfl, by decide +kernel, by decide +kernel⟩
theorem ok_inOrder {f c Pt : Addr} {fd : FuncData} {T : List (Addr × Str)} (F : FbC K mg "_in_order" sInOrder ["names", "ticks"] f fd c) (M : Mg mg) (TB : TabB base mg c Pt) (hm : (Pt, qInOrder) ∈ T) (hu : ∀ p ∈ T, p.1 = Pt → p.2 = qInOrder) :
    FnOk P w K mg base CX0 3 f fd ["names", "ticks"] (spInOrder K T) := by
  refine F.fn.ok scInOrder (fun vs H Q E h => ?_) (fun A outer s H vs Q E hr h => ?_)
  · obtain ⟨p, d, names, kvs, tk, rfl, _⟩ := h
    rfl
  · obtain ⟨p, d, names, kvs, tk, rfl, hp, hd, hk, hT, k⟩ := h
    refine ⟨_, pss_one (ps_ret (pe_sortLam (par := "name") hr TB rfl hm hu (by rfl) M.sorted (lamP_by (sc := defScope sInOrder) (by decide +kernel)) (pv 0) (pk_dict (j := 1) rfl (by decide +kernel) (by decide +kernel) (lamP_by (sc := defScope sInOrder) (by decide +kernel)) (Or.inr (Or.inl rfl))))), ?_⟩
    refine ⟨_, rfl, p, names.map V.str, names.map tk, rfl, .inl hp, by simp, hT, fun H2 e i x kk hx hkk => ?_, fun H2 D e T2 fD => ?_⟩
    · rw [List.getElem?_map] at hx hkk
      obtain ⟨n, hn, rfl⟩ := Option.map_eq_some_iff.mp hx
      rw [hn] at hkk
      cases hkk
      exact ⟨d, kvs, .inr n, rfl, .inl (ExtN.dK e hd), rfl, hk n (List.mem_of_getElem? hn)⟩
    · have e1 : (isort ((names.map tk).zip (names.map V.str))).map (·.2) = (sortBy tk names).map V.str := by
        rw [zip_self, isort_map, List.map_map]
        unfold sortBy
        rw [List.map_map]
        rfl
      rw [e1]
      exact k _ D (fun b o h n => by rw [upd_ne (ne_of_none (e b o h n) fD)]; exact e b o h n) (T2.ext fun b o h => by rw [upd_ne (ne_of_none h fD)]; exact h) (New.ext e (New.of fD)) upd_same
end
end Sl

/-! The mathematics of driving: rows of (name, tick, leader) behind a section. -/
namespace Sl
open OwnR
section
variable {N : Type} [DecidableEq N]
abbrev RowT (N : Type) := N × Int × Option N
/-- one more car enters a narrow section -/
def fnext (free : N → Int) (acc : List (RowT N)) (n : N) : RowT N :=
  match acc.getLast? with
  | none => (n, free n, none)
  | some (a, t, l) => if free n < t then (n, t, some (l.getD a)) else (n, free n, none)
def foll (free : N → Int) (order : List N) : List (RowT N) := order.foldl (fun acc n => acc ++ [fnext free acc n]) []
theorem fnext_name (free : N → Int) (acc : List (RowT N)) (n : N) : (fnext free acc n).1 = n := by
  unfold fnext
  split
  · rfl
  · split <;> rfl
theorem foll_snoc (free : N → Int) (order : List N) (n : N) : foll free (order ++ [n]) = foll free order ++ [fnext free (foll free order) n] := by
  unfold foll
  rw [List.foldl_append]
  rfl
theorem foll_names (free : N → Int) (order : List N) : (foll free order).map (·.1) = order := by
  have h : ∀ (l : List N) (acc : List (RowT N)), (l.foldl (fun acc n => acc ++ [fnext free acc n]) acc).map (·.1) = acc.map (·.1) ++ l := by
    intro l
    induction l with
    | nil => intro acc; simp
    | cons n r ih =>
      intro acc
      rw [List.foldl_cons, ih, List.map_append, List.append_assoc]
      simp [fnext_name]
  have := h order []
  simpa [foll] using this
theorem foll_length (free : N → Int) (order : List N) : (foll free order).length = order.length := by
  have := congrArg List.length (foll_names free order)
  simpa using this
/-- what a row list tells of a name -/
def look (acc : List (RowT N)) (n : N) : Option (Int × Option N) := (acc.find? fun r => decide (r.1 = n)).map (·.2)
theorem look_nil (n : N) : look ([] : List (RowT N)) n = none := rfl
theorem look_none {acc : List (RowT N)} {n : N} (h : n ∉ acc.map (·.1)) : look acc n = none := by
  unfold look
  rw [List.find?_eq_none.mpr]
  · rfl
  · intro r hr
    simp only [decide_eq_true_eq]
    intro e
    exact h (List.mem_map.mpr ⟨r, hr, e⟩)
theorem look_snoc (acc : List (RowT N)) (r : RowT N) (m : N) (h : r.1 ∉ acc.map (·.1)) : look (acc ++ [r]) m = if m = r.1 then some r.2 else look acc m := by
  by_cases e : m = r.1
  · subst e
    have h1 : acc.find? (fun x => decide (x.1 = r.1)) = none := by
      rw [List.find?_eq_none]
      intro x hx
      simp only [decide_eq_true_eq]
      exact fun z => h (List.mem_map.mpr ⟨x, hx, z⟩)
    unfold look
    rw [List.find?_append, h1]
    simp
  · rw [if_neg e]
    unfold look
    rw [List.find?_append]
    have h1 : ([r] : List (RowT N)).find? (fun x => decide (x.1 = m)) = none := by
      have : ¬ r.1 = m := fun z => e z.symm
      simp [this]
    rw [h1]
    simp
theorem look_get {acc : List (RowT N)} (nd : (acc.map (·.1)).Nodup) {i : Nat} {r : RowT N} (h : acc[i]? = some r) : look acc r.1 = some r.2 := by
  induction acc generalizing i with
  | nil => simp at h
  | cons a l ih =>
    rw [List.map_cons, List.nodup_cons] at nd
    cases i with
    | zero =>
      have e : a = r := by simpa using h
      subst e
      unfold look
      simp
    | succ j =>
      have hj : l[j]? = some r := by simpa using h
      have hm : r.1 ∈ l.map (·.1) := List.mem_map.mpr ⟨r, List.mem_of_getElem? hj, rfl⟩
      have hne : ¬ a.1 = r.1 := fun z => nd.1 (z ▸ hm)
      have := ih nd.2 hj
      unfold look at this ⊢
      rw [List.find?_cons, decide_eq_false hne]
      exact this
theorem look_some {acc : List (RowT N)} {n : N} (h : n ∈ acc.map (·.1)) : ∃ x, look acc n = some x := by
  obtain ⟨r, hr, e⟩ := List.mem_map.mp h
  unfold look
  cases q : acc.find? (fun r => decide (r.1 = n)) with
  | none =>
    rw [List.find?_eq_none] at q
    have := q r hr
    simp [e] at this
  | some z => exact ⟨z.2, rfl⟩
def tickOf (acc : List (RowT N)) (n : N) : Int := ((look acc n).map (·.1)).getD 0
def leadOf (acc : List (RowT N)) (n : N) : Option N := (look acc n).bind (·.2)
end
end Sl

set_option Elab.async false
set_option linter.all false
set_option maxRecDepth 100000
set_option maxHeartbeats 1000000
namespace Sl
open PySem PySem.Spec L2 OwnR LamX
theorem key_eq (a b : Str) : ((Sum.inr a : Key) = Sum.inr b) = (a = b) := by
  refine propext ⟨fun h => Sum.inr.inj h, fun h => congrArg _ h⟩
/-- a dict of ticks, a dict of leaders, as the rows tell -/
def TkD (kvs : List (Key × V)) (acc : List (RowT Str)) : Prop := ∀ n, valV kvs (Sum.inr n : Key) = (look acc n).map fun x => V.int x.1
def LdD (kvs : List (Key × V)) (acc : List (RowT Str)) : Prop := ∀ n, valV kvs (Sum.inr n : Key) = (look acc n).bind fun x => x.2.map V.str
theorem valV_putS (kvs : List (Key × V)) (k j : Str) (y : V) : valV (putK kvs (Sum.inr k : Key) y) (Sum.inr j : Key) = if j = k then some y else valV kvs (Sum.inr j : Key) := by
  rw [valV_put]
  by_cases e : j = k
  · rw [if_pos e, if_pos (congrArg _ e)]
  · rw [if_neg e, if_neg (fun z => e (Sum.inr.inj z))]
theorem gk {H : Hp} {a : Addr} {kvs : List (Key × V)} {n : Str} {v : V} (e : H a = some (.dK kvs)) (h : valV kvs (Sum.inr n : Key) = some v) : DGet H a (.str n) (some v) := by
  have q := DGet.k (k := (Sum.inr n : Key)) e
  rw [h] at q
  exact q
theorem gk0 {H : Hp} {a : Addr} {kvs : List (Key × V)} {n : Str} {o : Option V} (e : H a = some (.dK kvs)) (h : valV kvs (Sum.inr n : Key) = o) : DGet H a (.str n) o := by
  have q := DGet.k (k := (Sum.inr n : Key)) e
  rw [h] at q
  exact q
theorem look_last {acc : List (RowT Str)} (nd : (acc.map (·.1)).Nodup) {r : RowT Str} (h : acc.getLast? = some r) : look acc r.1 = some r.2 := by
  rw [List.getLast?_eq_getElem?] at h
  exact look_get nd h
theorem TkD.put {kvs : List (Key × V)} {acc : List (RowT Str)} {r : RowT Str} (h : TkD kvs acc) (hn : r.1 ∉ acc.map (·.1)) : TkD (putK kvs (Sum.inr r.1 : Key) (.int r.2.1)) (acc ++ [r]) := by
  intro m
  rw [valV_putS, look_snoc acc r m hn]
  by_cases e : m = r.1
  · rw [if_pos e, if_pos e]; rfl
  · rw [if_neg e, if_neg e]; exact h m
theorem TkD.put2 {kvs : List (Key × V)} {acc : List (RowT Str)} {r : RowT Str} {y : V} (h : TkD kvs acc) (hn : r.1 ∉ acc.map (·.1)) : TkD (putK (putK kvs (Sum.inr r.1 : Key) y) (Sum.inr r.1 : Key) (.int r.2.1)) (acc ++ [r]) := by
  intro m
  rw [valV_putS, valV_putS, look_snoc acc r m hn]
  by_cases e : m = r.1
  · rw [if_pos e, if_pos e]; rfl
  · rw [if_neg e, if_neg e, if_neg e]; exact h m
theorem LdD.put {kvs : List (Key × V)} {acc : List (RowT Str)} {r : RowT Str} {l : Str} (h : LdD kvs acc) (hn : r.1 ∉ acc.map (·.1)) (hl : r.2.2 = some l) : LdD (putK kvs (Sum.inr r.1 : Key) (.str l)) (acc ++ [r]) := by
  intro m
  rw [valV_putS, look_snoc acc r m hn]
  by_cases e : m = r.1
  · rw [if_pos e, if_pos e]; simp [hl]
  · rw [if_neg e, if_neg e]; exact h m
theorem LdD.skip {kvs : List (Key × V)} {acc : List (RowT Str)} {r : RowT Str} (h : LdD kvs acc) (hn : r.1 ∉ acc.map (·.1)) (hl : r.2.2 = none) : LdD kvs (acc ++ [r]) := by
  intro m
  rw [look_snoc acc r m hn]
  by_cases e : m = r.1
  · rw [if_pos e, h m, e, look_none hn]; simp [hl]
  · rw [if_neg e]; exact h m
section
variable {P : Program} {w : World} {K : PySem.W.Frag} {mg : Str → Option Value} {base : Heap}
def spFollow (K : PySem.W.Frag) : Sp := fun vs H Q _ => ∃ (p d : Addr) (order : List Str) (kvs : List (Key × V)) (fr : Str → Int), vs = [.ref p, .ref d] ∧ SqL K H p (order.map V.str) ∧ H d = some (.dK kvs) ∧
  (∀ n ∈ order, valV kvs (Sum.inr n : Key) = some (.int (fr n))) ∧ order.Nodup ∧ order.length ≤ 100 ∧
  ∀ H' t L G kL kG, Same H H' → H L = none → H G = none → L ≠ G → H' t = some (.tup [.ref L, .ref G]) → H' L = some (.dK kL) → H' G = some (.dK kG) → TkD kL (foll fr order) → LdD kG (foll fr order) → Q (.ref t) H'
theorem scFollow : FnScope ["order", "free", "left", "leaders", "ahead", "name"] ["order", "free"] (defScope sFollow) := ⟨rfl, rfl, rfl, by decide +kernel, rfl, by decide +kernel, by decide +kernel⟩
def aheadV (acc : List (RowT Str)) : V := match acc.getLast? with
  | none => .non
  | some r => .str r.1
theorem ok_follow {f : Addr} {fd : FuncData} (F : Fb K mg "_follow" sFollow ["order", "free"] f fd) : FnOk P w K mg base CX0 1 f fd ["order", "free"] (spFollow K) := by
  refine F.fn.ok scFollow (fun vs H Q E h => ?_) (fun cdv A outer s H vs Q E hr h => ?_)
  · obtain ⟨p, d, o, kvs, fr, rfl, _⟩ := h
    rfl
  · obtain ⟨p, d, order, kvs, fr, rfl, hp, hd, hk, hnd, hlen, k⟩ := h
    have nd := scFollow.nd
    have hu := hu_of hr
    refine ⟨_, pss_cons (ps_set (i := 2) nd rfl (.inl rfl) pe_dnewK) (pss_cons (ps_set (i := 3) nd rfl (.inl rfl) pe_dnewK) (pss_cons (ps_set (i := 4) nd rfl (.inl rfl) pe_non)
      (pss_cons (ps_for PassesOwn.never rfl (pi_list (pv 0)) (pg_name (i := 5) nd rfl (.inl rfl))
        (pss_cons (ps_dput hu (pv 2) (pv 5) (pe_dget hu (pv 1) (pv 5) (fun _ _ => rfl)) rfl)
        (pss_cons (ps_if (PW.pt (pw_and (pt_cmp (pc_notN (pv 4))) (pw_and1 (pt_cmpR op_lt (pe_dget hu (pv 1) (pv 5) (fun _ _ => rfl)) (pe_dget hu (pv 2) (pv 4) (fun _ _ => rfl)) (nomark _)))))
            (pss_cons (ps_dput hu (pv 2) (pv 5) (pe_dget hu (pv 2) (pv 4) (fun _ _ => rfl)) rfl) (pss_one (ps_dput hu (pv 3) (pv 5) (pe_dget2 hu (pv 3) (pv 4) (pv 4) ⟨rfl, rfl, rfl, rfl⟩) rfl))) pss_nil)
          (pss_one (ps_set (i := 4) nd rfl (.inl rfl) (pv 5))))))
      (pss_one (ps_ret (pe_tup (pa_cons (pv 2) (pa_cons (pv 3) pa_nil)))))))), ?_⟩
    intro L hL G hG
    have nLG : L ≠ G := ne_of_none (H := upd H L (.dK [])) upd_same hG
    have hG0 : H G = none := by rw [upd_ne nLG.symm] at hG; exact hG
    have ndL : d ≠ L := ne_of_none hd hL
    have ndG : d ≠ G := ne_of_none hd hG0
    have s0 : Same H (upd (upd H L (.dK [])) G (.dK [])) := fun b o e => by rw [upd_ne (ne_of_none e hG0), upd_ne (ne_of_none e hL)]; exact e
    refine ⟨_, rfl, p, rfl, ⟨_, s0.seq hp⟩, for_list (K := K) (a := p) (xs := order.map V.str) (fun i σ H1 => ∃ v5 kL kG, σ = [some (.ref p), some (.ref d), some (.ref L), some (.ref G), some (aheadV (foll fr (order.take i))), v5] ∧ Same H H1 ∧
        H1 L = some (.dK kL) ∧ H1 G = some (.dK kG) ∧ TkD kL (foll fr (order.take i)) ∧ LdD kG (foll fr (order.take i)) ∧ kL.length ≤ 2 * i ∧ kG.length ≤ i)
      ⟨none, [], [], rfl, s0, by rw [upd_ne nLG, upd_same], upd_same, fun n => rfl, fun n => rfl, Nat.zero_le _, Nat.zero_le _⟩ (fun i σ H1 _ ⟨_, _, _, _, s1, _⟩ => s1.seq hp) ?_ ?_⟩
    · rintro i x σ H1 hi ⟨v5, kL, kG, rfl, s1, h1, h2, tL, tG, lL, lG⟩
      obtain ⟨n, hn, rfl⟩ : ∃ n, order[i]? = some n ∧ x = V.str n := by
        rw [List.getElem?_map] at hi
        obtain ⟨n, z1, z2⟩ := Option.map_eq_some_iff.mp hi
        exact ⟨n, z1, z2.symm⟩
      have hil : i < order.length := (List.getElem?_eq_some_iff.mp hn).1
      have hfr := hk n (List.mem_of_getElem? hn)
      have hd1 := s1 _ _ hd
      have enames := foll_names fr (order.take i)
      have hnew : n ∉ (foll fr (order.take i)).map (·.1) := by
        rw [enames]
        intro hm
        obtain ⟨j, hj⟩ := List.mem_iff_getElem?.mp hm
        have hj2 : j < i := by
          have := (List.getElem?_eq_some_iff.mp hj).1
          rw [List.length_take] at this
          omega
        rw [List.getElem?_take_of_lt hj2] at hj
        have := nd_ix hnd hj hn
        omega
      have etk : foll fr (order.take (i + 1)) = foll fr (order.take i) ++ [fnext fr (foll fr (order.take i)) n] := by rw [tk1 hn, foll_snoc]
      have lk := fun m => look_snoc (foll fr (order.take i)) (fnext fr (foll fr (order.take i)) n) m (by rw [fnext_name]; exact hnew)
      rw [fnext_name] at lk
      have hndA : ((foll fr (order.take i)).map (·.1)).Nodup := by
        rw [enames]
        exact hnd.sublist (List.take_sublist _ _)
      rw [etk]
      generalize foll fr (order.take i) = acc at *
      have hn1 : (fnext fr acc n).1 ∉ acc.map (·.1) := by rw [fnext_name]; exact hnew
      have zL : kL.length < sizeLine := small1000 (by omega)
      have zG : kG.length < sizeLine := small1000 (by omega)
      have nLG2 : L ≠ G := nLG
      refine ⟨_, rfl, _, rfl, d, _, rfl, gk hd1 hfr, _, rfl, _, rfl, L, _, rfl, DPut.k (k := (Sum.inr n : Key)) h1 zL, ?_⟩
      have l1 := length_putK kL (Sum.inr n : Key) (.int (fr n))
      have hLast : ∀ (r : RowT Str), aheadV (acc ++ [r]) = .str r.1 := fun r => by
        unfold aheadV
        rw [List.getLast?_append]
        rfl
      have sL : Same H (upd H1 L (.dK (putK kL (Sum.inr n : Key) (.int (fr n))))) := fun b o e => by rw [upd_ne (ne_of_none e hL)]; exact s1 b o e
      cases hl : acc.getLast? with
      | none =>
        have eV : aheadV acc = .non := by unfold aheadV; rw [hl]
        have ef : fnext fr acc n = (n, fr n, none) := by unfold fnext; rw [hl]
        rw [eV]
        refine ⟨_, rfl, _, rfl, ?_⟩
        rw [show (!decide (V.non = V.non)) = false by simp]
        refine iteF ?_
        refine iteF ?_
        rw [ef] at hn1 ⊢
        refine ⟨_, rfl, some (.str n), _, _, ?_, sL, upd_same, by rw [upd_ne nLG.symm]; exact h2, tL.put (r := (n, fr n, none)) hn1, tG.skip hn1 rfl, by omega, by omega⟩
        rw [hLast]
        rfl
      | some r =>
        obtain ⟨a, t, l⟩ := r
        have eV : aheadV acc = .str a := by unfold aheadV; rw [hl]
        have la := look_last hndA hl
        have nea : a ≠ n := fun z => by
          rw [z, look_none hnew] at la
          cases la
        have ga : valV (putK kL (Sum.inr n : Key) (.int (fr n))) (Sum.inr a : Key) = some (.int t) := by
          rw [valV_putS, if_neg nea, tL a, la]
          rfl
        have gL : upd H1 L (.dK (putK kL (Sum.inr n : Key) (.int (fr n)))) L = some (.dK (putK kL (Sum.inr n : Key) (.int (fr n)))) := upd_same
        rw [eV]
        refine ⟨_, rfl, _, rfl, ?_⟩
        rw [show (!decide (V.str a = V.non)) = true by simp]
        refine iteT ?_
        refine ⟨_, rfl, _, rfl, d, _, rfl, gk (by rw [upd_ne ndL]; exact hd1) hfr, _, rfl, _, rfl, L, _, rfl, gk gL ga, fr n, t, rfl, rfl, _, rfl, ?_⟩
        by_cases hc : fr n < t
        · rw [decide_eq_true hc]
          refine iteT ?_
          have ef : fnext fr acc n = (n, t, some (l.getD a)) := by
            unfold fnext
            rw [hl]
            exact if_pos hc
          have gG : valV kG (Sum.inr a : Key) = l.map V.str := by rw [tG a, la]; rfl
          have l2 := length_putK (putK kL (Sum.inr n : Key) (.int (fr n))) (Sum.inr n : Key) (.int t)
          have l3 := length_putK kG (Sum.inr n : Key) (.str (l.getD a))
          have eg : ((l.map V.str).getD (.str a)) = V.str (l.getD a) := by cases l <;> rfl
          rw [ef] at hn1 ⊢
          refine ⟨_, rfl, _, rfl, L, _, rfl, gk gL ga, _, rfl, _, rfl, L, _, rfl, DPut.k (k := (Sum.inr n : Key)) gL (small1000 (by omega)), ?_⟩
          have gG2 : (upd (upd H1 L (.dK (putK kL (Sum.inr n : Key) (.int (fr n))))) L (.dK (putK (putK kL (Sum.inr n : Key) (.int (fr n))) (Sum.inr n : Key) (.int t)))) G = some (.dK kG) := by rw [upd_ne nLG.symm, upd_ne nLG.symm]; exact h2
          refine ⟨_, rfl, G, rfl, .inl ⟨_, .inl gG2⟩, _, rfl, _, rfl, _, gk0 gG2 gG, ?_⟩
          rw [eg]
          refine ⟨_, rfl, _, rfl, G, _, rfl, DPut.k (k := (Sum.inr n : Key)) gG2 zG, ?_⟩
          refine ⟨_, rfl, some (.str n), _, _, ?_, fun b o e => ?_, by rw [upd_ne nLG, upd_same], upd_same, tL.put2 (r := (n, t, some (l.getD a))) hn1, tG.put (r := (n, t, some (l.getD a))) hn1 rfl, Nat.le_trans l2 (by omega), Nat.le_trans l3 (by omega)⟩
          · rw [hLast]
            rfl
          · rw [upd_ne (ne_of_none e hG0), upd_ne (ne_of_none e hL)]
            exact sL b o e
        · rw [decide_eq_false hc]
          refine iteF ?_
          have ef : fnext fr acc n = (n, fr n, none) := by
            unfold fnext
            rw [hl]
            exact if_neg hc
          rw [ef] at hn1 ⊢
          refine ⟨_, rfl, some (.str n), _, _, ?_, sL, upd_same, by rw [upd_ne nLG.symm]; exact h2, tL.put (r := (n, fr n, none)) hn1, tG.skip hn1 rfl, by omega, by omega⟩
          rw [hLast]
          rfl
    · rintro σ H1 ⟨v5, kL, kG, rfl, s1, h1, h2, tL, tG, lL, lG⟩
      have e3 : order.take (order.map V.str).length = order := by rw [List.length_map, List.take_length]
      rw [e3] at tL tG
      refine ⟨_, rfl, _, rfl, by show 2 ≤ sizeLine; decide, fun t ht => ?_⟩
      exact k _ t L G kL kG (fun b o e => by rw [upd_ne (ne_of_none (s1 _ _ e) ht)]; exact s1 b o e) hL hG0 nLG upd_same (by rw [upd_ne (ne_of_none h1 ht)]; exact h1) (by rw [upd_ne (ne_of_none h2 ht)]; exact h2) tL tG
end
end Sl

set_option Elab.async false
set_option linter.all false
set_option maxRecDepth 100000
set_option maxHeartbeats 1000000
namespace OwnR
open PySem PySem.Spec PyProof.Rows L2
theorem fold_flat : ∀ (l : List (Array Nat)) (acc : Array Nat), (l.foldl (· ++ ·) acc).toList = acc.toList ++ (l.map (·.toList)).flatten
  | [], acc => by simp
  | a :: r, acc => by
    rw [List.foldl_cons, fold_flat r, List.map_cons, List.flatten_cons]
    simp
/-- z * n, a text repeated, n from 1 -/
def rRepS : R2 := fun x y H Q => ∃ (z : Str) (n : Nat), x = .str z ∧ y = .int (n : Int) ∧ 1 ≤ n ∧ n ≤ 1000000 ∧ z.length * n ≤ 1000000 ∧ ∀ u : Str, u.cps.toList = (List.replicate n z.cps.toList).flatten → Q (.str u) H
theorem line_big : 1000000 ≤ sizeLine := by decide
theorem op_repS {X : Cx} : OpR X (binaryOp .Mult) rRepS := by
  intro pins s σ H x y v u Q I rx ry h
  obtain ⟨z, n, rfl, rfl, h1, hn, hz, q⟩ := h
  obtain ⟨t, rfl⟩ := (show ∃ t, v = Value.str z t from rx)
  obtain ⟨t', rfl⟩ := (show ∃ t, u = Value.int (n : Int) t from ry)
  have hn1 : ¬ (n : Int) < 1 := by omega
  have hzl : (z.length : Int) * (n : Int) ≤ 1000000 := by
    rw [← Int.natCast_mul]
    generalize z.length * n = mm at hz
    omega
  refine P.mul_str (by
      rw [decide_eq_false (by omega : ¬ (n : Int) < -(2 ^ 63)), decide_eq_false (by omega : ¬ (n : Int) ≥ 2 ^ 63)]
      rfl) (fun _ hne => ?_) (fun _ hne => ?_) ?_
  · have e1 : (z.length : Int) ≤ (2 ^ 63 - 1 : Int) / (n : Int) := by
      refine Int.le_ediv_of_mul_le (by omega) ?_
      exact Int.le_trans hzl (by decide)
    exact Int.not_lt.mpr e1
  · unfold Builtin.Str.tooLong
    have e2 : z.length * (n : Int).toNat ≤ sizeLine := by
      have : (n : Int).toNat = n := by omega
      rw [this]
      exact Nat.le_trans hz line_big
    simp only [decide_eq_false_iff_not]
    omega
  · rw [if_neg hn1]
    split
    · rename_i hb
      have hb : (n : Int) = 1 ∨ z.length = 0 := by simpa using hb
      refine ⟨.str z, H, I, ⟨t, rfl⟩, q z ?_⟩
      rcases hb with hb | hb
      · have : n = 1 := by omega
        subst this
        simp
      · have hl : z.cps.toList = [] := by
          have : z.cps.toList.length = 0 := by simpa [Str.length] using hb
          exact List.length_eq_zero_iff.mp this
        rw [hl]
        simp
    · have en : (n : Int).toNat = n := by omega
      rw [en]
      have ec : (⟨(List.replicate n z.cps).foldl (· ++ ·) #[]⟩ : Str).cps.toList = (List.replicate n z.cps.toList).flatten := by
        show ((List.replicate n z.cps).foldl (· ++ ·) #[]).toList = _
        rw [fold_flat, List.map_replicate]
        simp
      refine ⟨?_, .str _, H, I.tok _, ⟨_, rfl⟩, q _ ec⟩
      have : (⟨(List.replicate n z.cps).foldl (· ++ ·) #[]⟩ : Str).length = z.length * n := by
        show ((List.replicate n z.cps).foldl (· ++ ·) #[]).size = z.cps.size * n
        rw [← Array.length_toList, fold_flat, List.map_replicate]
        simp [Nat.mul_comm]
      rw [this]
      exact Nat.le_trans hz line_big
/-! ### d.get(k), d a written dict that has k -/
def tKGet1 (K : PySem.W.Frag) (w : World) (td ty : TE) : TE := fun σ H Q => td σ H fun x H1 => ∃ p, x = .ref p ∧ (p == sysModules) = false ∧ (∃ z0 v0, KDct K w p z0 v0) ∧ ty σ H1 fun y H2 => ∃ (z : Str) (v : V), y = .str z ∧ KDct K w p z v ∧ Q v H2
theorem pe_kget1 {X : Cx} {o e : Expr} {apos cpos : Pos} {td ty : TE} (ho : PE X o td) (he : PE X e ty) (m : M1 X o "get" apos e cpos) : PE X (.Call (.Attribute o "get" apos) [e] [] cpos) (tKGet1 X.K X.w td ty) := by
  refine ⟨fun pins s σ H Q I h => ?_⟩
  refine wpAny_Call_method m.base m.few m.line PySem.F.plainAttrs_dict PySem.F.slot_dict_get PySem.F.type_dict_get (thn (ho.run pins s σ H _ I h) fun u s1 ⟨x, H1, I1, rx, p, ex, np, ⟨z0, v0, es0, n0, u0, hl0, hk0, e0, _⟩, q1⟩ => ?_)
  subst ex
  cases (show u = Value.ref p from rx)
  have hm0 := PySem.W.mapOf_K (prog := X.prog) (w := X.w) I1.kIn hl0 hk0
  refine ⟨hm0.typeIs, fun b q => ?_, ?_⟩
  · cases q
    exact ⟨_, I1.kIn _ _ hl0, rfl⟩
  rw [m.trees]
  refine Calls.callWith_builtin rfl (Calls.evalArgs_plain (Calls.spliced_cons (thn (he.run pins s1 σ H1 _ I1 q1) fun iv s2 ⟨y, H2, I2, ry, z, v, ey, kd, q2⟩ => Calls.spliced_nil ?_)))
  subst ey
  obtain ⟨es, n, u1, hl, hk, e1, ru⟩ := kd
  obtain ⟨t, rfl⟩ := (show ∃ t, iv = Value.str z t from ry)
  have hm := PySem.W.mapOf_K (prog := X.prog) (w := X.w) I2.kIn hl hk
  have hf := PySem.W.find_K hl e1
  refine call_meetsIn PySem.F.slot_dict_get hm.typeIs PySem.F.entry_dict_get (PySem.F.args_dict_get_2 _ _) (meets_dict_get (strKind X.prog X.w) p (strKind_is X.prog X.w z t) np) ⟨_, hm, ?_⟩
  rw [hf]
  exact ⟨v, H2, I2.tok _, ru, q2⟩
/-! ### a dict comprehension over any walk -/
theorem dc_it {J : It} {n : Nat} {G : Hp → Prop} {Y : Nat → Hp → V → Hp → Prop} (wk : Walk J n G Y) {g : TG} {tt : TT} {tk tv : TE} {vs : List Nat} {σ : L2.St} {H1 : Hp} {D : Addr} {Qd : Hp → Prop} (Pv : Nat → Hp → Prop) (h0 : Pv 0 (upd H1 D (.dK []))) (hG : ∀ i H, i ≤ n → Pv i H → G H)
    (hs : ∀ i x H H', i < n → Pv i H → Y i H x H' → g x (wipe σ vs) H' fun σ2 H2 => wipe σ2 vs = wipe σ vs ∧ tt σ2 H2 fun b H3 =>
      if b = true then tk σ2 H3 fun y H4 => tv σ2 H4 fun z H5 => ∃ kvs k, y = kV k ∧ H5 D = some (.dK kvs) ∧ kvs.length < sizeLine ∧ Pv (i + 1) (upd H5 D (.dK (putK kvs k z))) else Pv (i + 1) H3) (hd : ∀ H, Pv n H → Qd H) :
    ∃ W : Nat → Nat → Hp → Prop, (∃ m, W 0 m (upd H1 D (.dK []))) ∧ ∀ i m H, W i m H →
      (J.stop i H ∧ Qd H) ∨ (J.go i H ∧ ∃ Nx : Hp → Prop, (∀ H', Nx H' → ∃ m', m' < m ∧ W (i + 1) m' H') ∧ ∀ x H', J.yld i H x H' → g x (wipe σ vs) H' fun σ2 H2 => wipe σ2 vs = wipe σ vs ∧ tt σ2 H2 fun b H3 =>
        if b = true then tk σ2 H3 fun y H4 => tv σ2 H4 fun z H5 => ∃ kvs k, y = kV k ∧ H5 D = some (.dK kvs) ∧ kvs.length < sizeLine ∧ Nx (upd H5 D (.dK (putK kvs k z))) else Nx H3) := by
  refine ⟨fun i m H => m + i = n ∧ Pv i H, ⟨n, by omega, h0⟩, ?_⟩
  rintro i m H ⟨em, p⟩
  have hi : i ≤ n := by omega
  have g0 := hG i H hi p
  rcases Nat.lt_or_ge i n with lt | ge
  · exact .inr ⟨wk.goes i H lt g0, Pv (i + 1), fun H' p' => ⟨n - (i + 1), by omega, by omega, p'⟩, fun x H' y => hs i x H H' lt p (wk.yields i H x H' lt g0 y)⟩
  · have ei : i = n := by omega
    subst ei
    exact .inl ⟨wk.stops H g0, hd H p⟩
end OwnR

set_option Elab.async false
set_option linter.all false
set_option maxRecDepth 100000
set_option maxHeartbeats 1000000
namespace Sl
open PySem PySem.Spec L2 OwnR LamX
/-- a section: whether it is wide, its length -/
abbrev Sec := Bool × Nat
def kindS (b : Bool) : Str := if b then "wide" else "narrow"
def letterC (b : Bool) : Nat := if b then 119 else 110
def secV (s : Sec) : List V := [.str (kindS s.1), .int (s.2 : Nat)]
def SecsAt (H : Hp) (a : Addr) (secs : List Sec) : Prop := ∃ ts : List Addr, H a = some (.tup (ts.map V.ref)) ∧ ts.length = secs.length ∧ ∀ (i : Nat) (t : Addr) (s : Sec), ts[i]? = some t → secs[i]? = some s → H t = some (.tup (secV s))
theorem SecsAt.ext {H H' : Hp} {a : Addr} {secs : List Sec} (h : SecsAt H a secs) (e : ExtN H H') : SecsAt H' a secs := by
  obtain ⟨ts, h1, h2, h3⟩ := h
  exact ⟨ts, ExtN.tup e h1, h2, fun i t c e1 e2 => ExtN.tup e (h3 i t c e1 e2)⟩
structure SecsOk (secs : List Sec) : Prop where
  ne : secs ≠ []
  few : secs.length ≤ 12
  len : ∀ s ∈ secs, 1 ≤ s.2 ∧ s.2 ≤ 99
section
variable {P : Program} {w : World} {K : PySem.W.Frag} {mg : Str → Option Value} {base : Heap}
def spIsSection : Sp := fun vs H Q _ => ∃ (t : Addr) (s : Sec), vs = [.ref t] ∧ H t = some (.tup (secV s)) ∧ 1 ≤ s.2 ∧ s.2 ≤ 99 ∧ ∀ H', Same H H' → Q (.bl true) H'
theorem scIsSection : FnScope ["value", "kind", "length"] ["value"] (defScope sIsSection) := ⟨rfl, rfl, rfl, by decide +kernel, rfl, by decide +kernel, by decide +kernel⟩
theorem ok_isSection {f fB : Addr} {fd dB : FuncData} (F : Fb K mg "_is_section" sIsSection ["value"] f fd) (M : Mg mg) (BB : Fb K mg "is_number" sIsNumber ["value", "least", "most"] fB dB)
    (GB : FnOk P w K mg base CX0 1 fB dB ["value", "least", "most"] spIsNumber) : FnOk P w K mg base CX0 2 f fd ["value"] spIsSection := by
  obtain ⟨t1, M1⟩ := M.longestSection
  refine F.fn.ok scIsSection (fun vs H Q E h => ?_) (fun cdv A outer s H vs Q E hr h => ?_)
  · obtain ⟨t, c, rfl, _⟩ := h
    rfl
  · obtain ⟨t, c, rfl, ht, c1, c2, k⟩ := h
    have nd := scIsSection.nd
    refine ⟨_, pss_cons (ps_if (PW.pt (pw_or (pt_not (pt_val (pe_callB call_isi (by rfl) M.isinstance boot_isinstance (pa_cons (pv 0) (pa_cons (pe_bltn (v := .ty "tuple") (by rfl) M.tuple boot_tTuple rfl) pa_nil)))))
        (pw_or1 (pt_cmpR op_ne (pe_callB call_len_seq (by rfl) M.len boot_len (pa_cons (pv 0) pa_nil)) pe_int (nomark _))))) (pss_one (ps_ret pe_bl)) pss_nil)
      (pss_cons (ps_asg (pv 0) (pg_tup (by rfl) (pgs_cons (pg_name (i := 1) nd rfl (.inl rfl)) (pgs_cons (pg_name (i := 2) nd rfl (.inl rfl)) pgs_nil))))
      (pss_one (ps_ret (pe_and (pe_cmpR op_in_seq (pv 1) (pe_tup (pa_cons pe_str (pa_cons pe_str pa_nil))) (by rfl))
          (pe_one (pe_call GB hr (by rfl) BB.at_ BB.fn.kp BB.bd .nil pass0 (pa_cons (pv 2) (pa_cons pe_int (pa_cons (pe_glob (v := .int 99) (by rfl) M1 ⟨_, rfl⟩) pa_nil))))))))), ?_⟩
    refine ⟨_, rfl, _, _, _, _, true, rfl, .ty _, .base (.tup ht), kit_ty (by decide +kernel), true, rfl, iteF ?_⟩
    refine ⟨_, rfl, t, _, rfl, .inr (SqT.of ht), rfl, false, rfl, iteF ?_⟩
    refine ⟨_, rfl, t, secV c, rfl, SqT.of ht, rfl, _, _, rfl, _, _, rfl, rfl, ?_⟩
    refine ⟨_, rfl, by show 2 ≤ sizeLine; decide, fun p hp => ?_⟩
    refine ⟨p, _, rfl, .inr (SqT.of upd_same), rfl, rfl, true, ?_, iteT ?_⟩
    · show V.bl (inV (.str (kindS c.1)) _) = V.bl true
      cases c.1 <;> rfl
    refine ⟨_, rfl, (c.2 : Nat), 1, 99, rfl, ?_⟩
    rw [decide_eq_true (by omega : (1 : Int) ≤ (c.2 : Nat)), decide_eq_true (by omega : ((c.2 : Nat) : Int) ≤ 99)]
    exact k _ fun b o e => by rw [upd_ne (ne_of_none e hp)]; exact e
end
end Sl

set_option Elab.async false
set_option linter.all false
set_option maxRecDepth 100000
set_option maxHeartbeats 1000000
namespace Sl
open PySem PySem.Spec L2 OwnR LamX
def unitsL (secs : List Sec) : List Nat := secs.flatMap fun s => List.replicate s.2 (letterC s.1)
theorem unitsL_len : ∀ secs : List Sec, (unitsL secs).length = (secs.map (·.2)).sum
  | [] => rfl
  | s :: r => by
    have := unitsL_len r
    simp [unitsL] at this ⊢
theorem unitsL_snoc (secs : List Sec) (s : Sec) : unitsL (secs ++ [s]) = unitsL secs ++ List.replicate s.2 (letterC s.1) := by simp [unitsL]
theorem sum_le {secs : List Sec} (h : ∀ s ∈ secs, s.2 ≤ 99) : (secs.map (·.2)).sum ≤ 99 * secs.length := by
  induction secs with
  | nil => simp
  | cons s r ih =>
    have h1 := h s List.mem_cons_self
    have h2 := ih fun z hz => h z (List.mem_cons_of_mem _ hz)
    rw [List.map_cons, List.sum_cons, List.length_cons]
    omega
theorem ksu : ¬ (("_sections" : Str) = "_units") := by decide +kernel
/-- a Road's attributes -/
def rf (t : Addr) (u : Str) : List (Str × V) := putF "_units" (.str u) (putF "_sections" (.ref t) [])
theorem rf_eq (t : Addr) (u : Str) : rf t u = ([("_sections", V.ref t), ("_units", V.str u)] : List (Str × V)) := by
  show (if ("_sections" : Str) = "_units" then [(("_sections" : Str), V.str u)] else (("_sections" : Str), V.ref t) :: putF "_units" (V.str u) []) = ([("_sections", V.ref t), ("_units", V.str u)] : List (Str × V))
  rw [if_neg ksu]
  rfl
theorem rf_sections (t : Addr) (u : Str) : (rf t u).lookup ("_sections" : Str) = some (.ref t) := by
  unfold rf
  rw [lookup_putF, if_neg ksu, lookup_putF, if_pos rfl]
theorem rf_units (t : Addr) (u : Str) : (rf t u).lookup ("_units" : Str) = some (.str u) := by
  unfold rf
  rw [lookup_putF, if_pos rfl]
def RoadAt (C : Addr) (H : Hp) (p : Addr) (secs : List Sec) : Prop := ∃ dx t u, H p = some (.ins C dx (rf t u)) ∧ SecsAt H t secs ∧ u.cps.toList = unitsL secs
theorem RoadAt.ext {C : Addr} {H H' : Hp} {a : Addr} {secs : List Sec} (h : RoadAt C H a secs) (e : ExtN H H') : RoadAt C H' a secs := by
  obtain ⟨dx, t, u, h1, h2, h3⟩ := h
  exact ⟨dx, t, u, ExtN.ins e h1, h2.ext e, h3⟩
/-- what the program asks of the class Road and of the tables of letters -/
structure RoadT (K : PySem.W.Frag) (w : World) (mg : Str → Option Value) (C lp kp : Addr) : Prop where
  cl : Cls K C
  nS : NoAttr K C "_sections"
  nU : NoAttr K C "_units"
  mgC : mg "Road" = some (.ref C)
  mgL : mg "LETTERS" = some (.ref lp)
  mgK : mg "KINDS" = some (.ref kp)
  lN : KDct K w lp "narrow" (.str "n")
  lW : KDct K w lp "wide" (.str "w")
  kN : KDct K w kp "n" (.str "narrow")
  kW : KDct K w kp "w" (.str "wide")
  kM : (kp == sysModules) = false
def letterS (b : Bool) : Str := if b then "w" else "n"
theorem letter_toList (b : Bool) : (letterS b).cps.toList = [letterC b] := by cases b <;> decide +kernel
theorem joinL_nil : ∀ l : List (List Nat), TL.joinL [] l = l.flatten
  | [] => rfl
  | [p] => by simp [TL.joinL]
  | p :: q :: r => by
    have := joinL_nil (q :: r)
    simp [TL.joinL] at this ⊢
    exact this
theorem join_empty (ys : List Str) : (Txt.join ("" : Str) ys).cps.toList = (ys.map fun y => y.cps.toList).flatten := by
  have h := TL.tl_join ("" : Str) ys
  rw [TL.join_eq]
  have e : TL.tl ("" : Str) = [] := by decide +kernel
  rw [e, joinL_nil] at h
  exact h
section
variable {P : Program} {w : World} {K : PySem.W.Frag} {mg : Str → Option Value} {base : Heap}
theorem str_add_toList (i j : Str) : (i ++ j).cps.toList = i.cps.toList ++ j.cps.toList := by
  show (i.cps ++ j.cps).toList = _
  simp
theorem str_len_toList (i : Str) : i.length = i.cps.toList.length := by simp [Str.length]
theorem ip_addS {X : Cx} : PIp X .Add (fun x y H Q => ∃ i j, x = .str i ∧ y = .str j ∧ i.length + j.length ≤ sizeLine ∧ Q (.str (i ++ j)) H) := fun pins s σ H x y v u Q I rx ry h => iop_add_str pins s σ H x y v u Q I rx ry h
def spUnitsOf : Sp := fun vs H Q _ => ∃ (t : Addr) (secs : List Sec), vs = [.ref t] ∧ SecsAt H t secs ∧ SecsOk secs ∧ ∀ H' u, Same H H' → u.cps.toList = unitsL secs → Q (.str u) H'
def nUnitsOf : List Str := ["sections", "units", "kind", "length"]
theorem scUnitsOf : FnScope nUnitsOf ["sections"] (defScope sUnitsOf) := ⟨rfl, rfl, rfl, by decide +kernel, rfl, by decide +kernel, by decide +kernel⟩
theorem ok_unitsOf {f C lp kp : Addr} {fd : FuncData} (F : Fb K mg "_units_of" sUnitsOf ["sections"] f fd) (R : RoadT K w mg C lp kp) : FnOk P w K mg base CX0 1 f fd ["sections"] spUnitsOf := by
  refine F.fn.ok scUnitsOf (fun vs H Q E h => ?_) (fun cdv A outer s H vs Q E hr h => ?_)
  · obtain ⟨t, secs, rfl, _⟩ := h
    rfl
  · obtain ⟨t, secs, rfl, ⟨ts, ht, hlen, hsec⟩, S, k⟩ := h
    have nd := scUnitsOf.nd
    refine ⟨_, pss_cons (ps_set (i := 1) nd rfl (.inl rfl) pe_str)
      (pss_cons (ps_for PassesOwn.never rfl (pi_tup (pv 0)) (pg_tup rfl (pgs_cons (pg_name (i := 2) nd rfl (.inl rfl)) (pgs_cons (pg_name (i := 3) nd rfl (.inl rfl)) pgs_nil)))
        (pss_one (ps_aug (i := 1) nd rfl (.inl rfl) (pe_op op_repS (pe_ix (r := rIxD K w) ix_kdict (pe_glob (v := .ref lp) (by rfl) R.mgL rfl) (pv 2) (fun _ _ => rfl)) (pv 3)) ip_addS)))
      (pss_one (ps_ret (pv 1)))), ?_⟩
    have hts : (ts.map V.ref).length = secs.length := by rw [List.length_map, hlen]
    refine ⟨_, rfl, t, rfl, ⟨_, SqT.of ht⟩, for_it walk_tup (fun i σ H1 => ∃ u v2 v3, σ = [some (.ref t), some (.str u), v2, v3] ∧ Same H H1 ∧ u.cps.toList = unitsL (secs.take i))
      ⟨("" : Str), none, none, rfl, Same.refl H, by rw [List.take_zero]; decide +kernel⟩ (fun i σ H1 _ ⟨_, _, _, _, s1, _⟩ => SqT.of (s1 _ _ ht)) ?_ ?_⟩
    · rintro i y σ H1 H2 hi ⟨u, v2, v3, rfl, s1, eu⟩ ⟨e, hy⟩
      subst e
      have hic : i < secs.length := by rw [hts] at hi; exact hi
      obtain ⟨tt, htt, rfl⟩ : ∃ t, ts[i]? = some t ∧ y = V.ref t := by
        rw [List.getElem?_map] at hy
        obtain ⟨t, z1, z2⟩ := Option.map_eq_some_iff.mp hy
        exact ⟨t, z1, z2.symm⟩
      have hc : secs[i]? = some secs[i] := List.getElem?_eq_getElem hic
      have hct := s1 _ _ (hsec i tt _ htt hc)
      have c0 := S.len _ (List.getElem_mem hic)
      have hlk : KDct K w lp (kindS secs[i].1) (.str (letterS secs[i].1)) := by
        cases secs[i].1
        · exact R.lN
        · exact R.lW
      have hl1 : (letterS secs[i].1).length = 1 := by cases secs[i].1 <;> decide +kernel
      refine ⟨tt, _, rfl, SqT.of hct, rfl, _, _, rfl, _, _, rfl, rfl, ?_⟩
      refine ⟨_, rfl, _, rfl, lp, _, _, rfl, rfl, hlk, _, rfl, letterS secs[i].1, secs[i].2, rfl, rfl, c0.1, by omega, by rw [hl1]; omega, fun u2 hu2 => ?_⟩
      rw [letter_toList] at hu2
      have e2 : u2.cps.toList = List.replicate secs[i].2 (letterC secs[i].1) := by rw [hu2]; simp
      have hsz : u.length + u2.length ≤ sizeLine := by
        rw [str_len_toList, str_len_toList, eu, e2, List.length_replicate, unitsL_len]
        have h1 := sum_le (secs := secs.take i) fun s hs => (S.len s (List.mem_of_mem_take hs)).2
        have h2 : (secs.take i).length ≤ secs.length := by rw [List.length_take]; omega
        have h3 := S.few
        have h4 := c0.2
        exact Nat.le_trans (by omega : _ ≤ 2000) (by decide)
      refine ⟨u, u2, rfl, rfl, hsz, ?_⟩
      refine ⟨u ++ u2, _, _, rfl, s1, ?_⟩
      rw [str_add_toList, eu, e2, tk1 hc, unitsL_snoc]
    · rintro σ H1 ⟨u, v2, v3, rfl, s1, eu⟩
      refine ⟨_, rfl, ?_⟩
      have e9 : secs.take (ts.map V.ref).length = secs := by rw [hts, List.take_length]
      rw [e9] at eu
      exact k H1 u s1 eu
def spRInit0 (C : Addr) : Sp := fun vs H Q _ => ∃ (x dx t : Addr) (secs : List Sec), vs = [.ref x, .ref t] ∧ H x = some (.ins C dx []) ∧ SecsAt H t secs ∧ SecsOk secs ∧
  ∀ H' u, (∀ b o, H b = some o → b ≠ x → H' b = some o) → H' x = some (.ins C dx (rf t u)) → u.cps.toList = unitsL secs → Q .non H'
def nRInit : List Str := ["self", "sections", "index", "section"]
theorem scRInit : FnScope nRInit ["self", "sections"] (defScope sRInit) := ⟨rfl, rfl, rfl, by decide +kernel, rfl, by decide +kernel, by decide +kernel⟩
theorem ok_rInit {f fB fU C lp kp : Addr} {fd dB dU : FuncData} (F : Fun K "__init__" "Road.__init__" sRInit f fd) (M : Mg mg) (R : RoadT K w mg C lp kp) (BB : Fb K mg "_is_section" sIsSection ["value"] fB dB)
    (GB : FnOk P w K mg base CX0 2 fB dB ["value"] spIsSection) (BU : Fb K mg "_units_of" sUnitsOf ["sections"] fU dU) (GU : FnOk P w K mg base CX0 1 fU dU ["sections"] spUnitsOf) :
    FnR P w K mg base CX0 3 f (fun vs H Q E => ∃ ws rest, vs = ws ++ rest ∧ ws.length = (["self"] : List Str).length ∧ rest.length ≤ sizeLine ∧ ∀ p, H p = Option.none → spRInit0 C (ws ++ [V.ref p]) (upd H p (.tup rest)) Q E) := by
  obtain ⟨t1, M1⟩ := M.mostSections
  obtain ⟨oc, od, kV, doc, pm, an, cdv, ct, osl, rfl, lk, hcd⟩ := F.ex
  refine StX.fn_star lk hcd scRInit StX.cxUp_none (StX.bind_star1 (p1 := "self") (pv := "sections") (B := fun xs => bindArgs (PySem.W.fnOf "__init__" "Road.__init__" (defArgs sRInit) (defBody sRInit) (defScope sRInit) .none kV doc pm an cdv ct) ⟨xs, []⟩) (fun _ => rfl) (fun _ _ _ => rfl)) fun A outer s H vs Q E hr h => ?_
  obtain ⟨x, dx, t, secs, rfl, hx, ⟨ts, ht, hlen, hsec⟩, S, k⟩ := h
  have nd := scRInit.nd
  have hr1 : Room 1 (A.deeper (PyProof.Rows.envOfC "Road.__init__" (defScope sRInit) s.heap.objs.size f cdv)) := hr.mono (by decide)
  refine ⟨_, PSs.nox (pss_cons (ps_if (pt_not (pt_truth (pv 1) (by intro _; rfl))) (pss_one ps_never) pss_nil)
    (pss_cons (ps_for PassesOwn.never rfl (pi_enumT (by rfl) M.enumerate (pa_cons (pv 1) pa_nil)) (pg_tup rfl (pgs_cons (pg_name (i := 2) nd rfl (.inl rfl)) (pgs_cons (pg_name (i := 3) nd rfl (.inl rfl)) pgs_nil)))
      (pss_one (ps_if (PW.pt (pw_or (pt_cmpR op_eq (pv 2) (pe_glob (v := .int 12) (by rfl) M1 ⟨_, rfl⟩) (nomark _)) (pw_or1 (pt_not (pt_val (pe_call GB hr (by rfl) BB.at_ BB.fn.kp BB.bd .nil pass0 (pa_cons (pv 3) pa_nil))))))) (pss_one ps_never) pss_nil)))
    (pss_cons (ps_fld (pv 0) (pv 1) rfl)
    (pss_one (ps_fld (pv 0) (pe_call GU hr1 (by rfl) BU.at_ BU.fn.kp BU.bd .nil pass0 (pa_cons (pv 1) pa_nil)) rfl))))), ?_⟩
  have hts : (ts.map V.ref).length = secs.length := by rw [List.length_map, hlen]
  have hne : (ts.map V.ref).isEmpty = false := by
    cases ts with
    | nil =>
      exfalso
      exact S.ne (List.length_eq_zero_iff.mp hlen.symm)
    | cons _ _ => rfl
  refine ⟨_, rfl, true, .inr (.inl ⟨_, SqT.of ht, by rw [hne]; rfl⟩), iteF ?_⟩
  refine ⟨_, rfl, t, ts.map V.ref, rfl, SqT.of ht, for_it walk_enumT
    (fun i σ H1 => ∃ v2 v3, σ = [some (.ref x), some (.ref t), v2, v3] ∧ Same H H1)
    ⟨none, none, rfl, Same.refl H⟩ (fun i σ H1 _ ⟨_, _, _, s1⟩ => SqT.of (s1 _ _ ht)) ?_ ?_⟩
  · rintro i y σ H1 H2 hi ⟨v2, v3, rfl, s1⟩ ⟨T, x1, x2, rfl, hT, rfl, e1, e2⟩
    cases e1
    have hic : i < secs.length := by rw [hts] at hi; exact hi
    have e2 : (ts.map V.ref)[i]? = some x2 := e2
    obtain ⟨tt, htt, rfl⟩ : ∃ t, ts[i]? = some t ∧ x2 = V.ref t := by
      rw [List.getElem?_map] at e2
      obtain ⟨t, z1, z2⟩ := Option.map_eq_some_iff.mp e2
      exact ⟨t, z1, z2.symm⟩
    have hc : secs[i]? = some secs[i] := List.getElem?_eq_getElem hic
    have hct := hsec i tt _ htt hc
    have sT : Same H1 (upd H1 T (.tup [.int (i : Nat), .ref tt])) := fun b o e => by rw [upd_ne (ne_of_none e hT)]; exact e
    have c0 := S.len _ (List.getElem_mem hic)
    refine ⟨T, _, rfl, SqT.of upd_same, rfl, _, _, rfl, _, _, rfl, rfl, ?_⟩
    refine ⟨_, rfl, rfl, _, rfl, ?_⟩
    have ne12 : ¬ (V.int (i : Nat) = V.int 12) := fun z => by
      injection z with z
      have := S.few
      omega
    rw [decide_eq_false ne12]
    refine iteF ?_
    refine ⟨_, rfl, tt, secs[i], rfl, sT _ _ (s1 _ _ hct), c0.1, c0.2, fun H3 s3 => ⟨true, rfl, iteF ?_⟩⟩
    exact ⟨_, _, rfl, s1.trans (sT.trans s3)⟩
  · rintro σ H1 ⟨v2, v3, rfl, s1⟩
    have hx1 := s1 _ _ hx
    have ht1 := s1 _ _ ht
    have nxt : t ≠ x := ne_of ht1 hx1 (by intro z; cases z)
    refine ⟨_, rfl, _, rfl, x, C, dx, _, rfl, hx1, R.cl, R.nS, (by show 0 < 1000; decide), ?_⟩
    have sx : ∀ b o, H b = some o → b ≠ x → upd H1 x (.ins C dx (putF "_sections" (.ref t) [])) b = some o := fun b o e n => by rw [upd_ne n]; exact s1 b o e
    have hs2 : SecsAt (upd H1 x (.ins C dx (putF "_sections" (.ref t) []))) t secs := by
      refine ⟨ts, by rw [upd_ne nxt]; exact ht1, hlen, fun i a s e1 e2 => ?_⟩
      have h1 := s1 _ _ (hsec i a s e1 e2)
      rw [upd_ne (ne_of h1 hx1 (by intro z; cases z))]
      exact h1
    refine ⟨_, rfl, t, secs, rfl, hs2, S, fun H2 u k2 eU => ?_⟩
    have hx2 := k2 x _ upd_same
    refine ⟨_, rfl, x, C, dx, _, rfl, hx2, R.cl, R.nU, (by show 1 < 1000; decide), ?_⟩
    exact k _ _ (fun b o e n => by rw [upd_ne n]; exact k2 b o (sx b o e n)) upd_same eU
end
end Sl

/-! Runs of units: the longest runs of a list of Booleans. -/
namespace Sl
def rstep (acc : List (Bool × Nat)) (b : Bool) : List (Bool × Nat) := match acc.getLast? with
  | none => [(b, 1)]
  | some (k, n) => if k = b then acc.dropLast ++ [(k, n + 1)] else acc ++ [(b, 1)]
def runsOf (l : List Bool) : List (Bool × Nat) := l.foldl rstep []
theorem runsOf_snoc (l : List Bool) (b : Bool) : runsOf (l ++ [b]) = rstep (runsOf l) b := by
  unfold runsOf
  rw [List.foldl_append]
  rfl
theorem rstep_len (acc : List (Bool × Nat)) (b : Bool) : (rstep acc b).length ≤ acc.length + 1 := by
  unfold rstep
  split
  · simp
  · split
    · simp [List.length_dropLast]
    · simp
theorem runs_fold_len : ∀ (l : List Bool) (acc : List (Bool × Nat)), (l.foldl rstep acc).length ≤ acc.length + l.length
  | [], _ => by simp
  | b :: r, acc => by
    have h1 := runs_fold_len r (rstep acc b)
    have h2 := rstep_len acc b
    rw [List.foldl_cons, List.length_cons]
    omega
theorem runsOf_len (l : List Bool) : (runsOf l).length ≤ l.length := by
  have := runs_fold_len l []
  simpa [runsOf] using this
end Sl

set_option Elab.async false
set_option linter.all false
set_option maxRecDepth 100000
set_option maxHeartbeats 1000000
namespace Sl
open PySem PySem.Spec L2 OwnR LamX
section
variable {P : Program} {w : World} {K : PySem.W.Frag} {mg : Str → Option Value} {base : Heap}
/-! ### the property sections, len(road) -/
theorem scRSections : FnScope ["self"] ["self"] (defScope sRSections) := ⟨rfl, rfl, rfl, by decide +kernel, rfl, by decide +kernel, by decide +kernel⟩
theorem ok_rSections {f C lp kp : Addr} {fd : FuncData} (F : Fun K "sections" "Road.sections" sRSections f fd) (R : RoadT K w mg C lp kp) : FnOk P w K mg base CX0 1 f fd ["self"] (getSp C "_sections") := by
  obtain ⟨oc, od, kV, doc, pm, an, cdv, ct, osl, rfl, lk, hcd⟩ := F.ex
  exact fn_getter lk hcd scRSections rfl rfl R.cl R.nS
def spRLen (C : Addr) : Sp := fun vs H Q _ => ∃ (p : Addr) (secs : List Sec), vs = [.ref p] ∧ RoadAt C H p secs ∧ SecsOk secs ∧ Q (.int ((unitsL secs).length : Nat)) H
theorem scRLen : FnScope ["self"] ["self"] (defScope sRLen) := ⟨rfl, rfl, rfl, by decide +kernel, rfl, by decide +kernel, by decide +kernel⟩
theorem ok_rLen {f C lp kp : Addr} {fd : FuncData} (F : Fun K "__len__" "Road.__len__" sRLen f fd) (M : Mg mg) (R : RoadT K w mg C lp kp) : FnOk P w K mg base CX0 1 f fd ["self"] (spRLen C) := by
  refine F.ok scRLen (fun vs H Q E h => ?_) (fun cdv A outer s H vs Q E hr h => ?_)
  · obtain ⟨p, secs, rfl, _⟩ := h
    rfl
  · obtain ⟨p, secs, rfl, ⟨dx, t, u, hp, hs, hu⟩, S, k⟩ := h
    refine ⟨_, pss_one (ps_ret (pe_callB call_len_str (by rfl) M.len boot_len (pa_cons (pe_fld (pv 0) rfl) pa_nil))), ?_⟩
    have el : u.length = (unitsL secs).length := by rw [← hu]; simp [Str.length]
    have hz : u.length ≤ sizeLine := by
      rw [el, unitsL_len]
      have := sum_le fun s hs => (S.len s hs).2
      have := S.few
      exact Nat.le_trans (by omega : (secs.map (·.2)).sum ≤ 2000) (by decide)
    refine ⟨_, rfl, p, C, dx, _, _, rfl, hp, R.cl, R.nU, rf_units _ _, u, rfl, hz, ?_⟩
    rw [el]
    exact k
/-! ### _runs -/
def RunsAt (H : Hp) (a : Addr) (secs : List Sec) : Prop := ∃ ts : List Addr, H a = some (.lst (ts.map V.ref)) ∧ ts.length = secs.length ∧ ∀ (i : Nat) (t : Addr) (s : Sec), ts[i]? = some t → secs[i]? = some s → H t = some (.tup (secV s))
def spRuns : Sp := fun vs H Q _ => ∃ (u : Str) (bs : List Bool), vs = [.str u] ∧ u.cps.toList = bs.map letterC ∧ bs.length ≤ 1000 ∧ ∀ H' p, Same H H' → H p = none → RunsAt H' p (runsOf bs) → Q (.ref p) H'
def nRuns : List Str := ["units", "runs", "letter", "length"]
theorem scRuns : FnScope nRuns ["units"] (defScope sRuns) := ⟨rfl, rfl, rfl, by decide +kernel, rfl, by decide +kernel, by decide +kernel⟩
theorem letterS_eq (b : Bool) : (⟨#[letterC b]⟩ : Str) = letterS b := by cases b <;> decide +kernel
theorem letterS_inj (a b : Bool) : decide (V.str (letterS a) = V.str (letterS b)) = decide (a = b) := by cases a <;> cases b <;> decide +kernel
theorem snoc_of {α : Type} {l : List α} {m : Nat} (h : l.length = m + 1) : ∃ r x, l = r ++ [x] ∧ r.length = m := by
  have hne : l ≠ [] := fun z => by rw [z] at h; simp at h
  refine ⟨l.dropLast, l.getLast hne, (List.dropLast_concat_getLast hne).symm, ?_⟩
  rw [List.length_dropLast, h]
  rfl
structure RunsI (H H1 : Hp) (L : Addr) (acc : List Sec) (as : List Addr) : Prop where
  at_ : H1 L = some (.lst (as.map V.ref))
  len : as.length = acc.length
  nd : as.Nodup
  new : ∀ a ∈ as, H a = none ∧ a ≠ L
  it : ∀ (j : Nat) (a : Addr) (s : Sec), as[j]? = some a → acc[j]? = some s → H1 a = some (.lst [.str (letterS s.1), .int (s.2 : Nat)])
theorem RunsI.more {H H1 : Hp} {L : Addr} {acc : List Sec} {as : List Addr} (h : RunsI H H1 L acc as) (s1 : Same H H1) (hL : H L = none) {a : Addr} (ha : H1 a = none) (b : Bool) :
    RunsI H (upd (upd H1 a (.lst [.str (letterS b), .int 1])) L (.lst (as.map V.ref ++ [.ref a]))) L (acc ++ [(b, 1)]) (as ++ [a]) := by
  have naL : a ≠ L := fun z => by rw [z, h.at_] at ha; cases ha
  have nas : a ∉ as := fun z => by
    obtain ⟨j, hj⟩ := List.mem_iff_getElem?.mp z
    have hj2 : j < acc.length := by
      have := (List.getElem?_eq_some_iff.mp hj).1
      rw [← h.len]
      exact this
    have := h.it j a _ hj (List.getElem?_eq_getElem hj2)
    rw [ha] at this
    cases this
  refine ⟨by rw [upd_same, List.map_append]; rfl, by rw [List.length_append, List.length_append, h.len]; rfl, ?_, fun c hc => ?_, fun j c s e1 e2 => ?_⟩
  · rw [List.nodup_append]
    refine ⟨h.nd, by simp, fun x hx y hy => ?_⟩
    rw [List.mem_singleton.mp hy]
    exact fun z => nas (z ▸ hx)
  · rcases List.mem_append.mp hc with hc | hc
    · exact h.new c hc
    · rw [List.mem_singleton.mp hc]
      refine ⟨?_, naL⟩
      cases q : H a with
      | none => rfl
      | some o =>
        rw [s1 _ _ q] at ha
        cases ha
  · rcases Nat.lt_or_ge j as.length with lt | ge
    · rw [List.getElem?_append_left lt] at e1
      rw [List.getElem?_append_left (by rw [← h.len]; exact lt)] at e2
      have hc := List.mem_of_getElem? e1
      rw [upd_ne (h.new c hc).2, upd_ne (fun (z : c = a) => nas (by rw [← z]; exact hc))]
      exact h.it j c s e1 e2
    · rw [List.getElem?_append_right ge] at e1
      rw [List.getElem?_append_right (by rw [← h.len]; exact ge), ← h.len] at e2
      have e0 : j - as.length = 0 := by
        have := (List.getElem?_eq_some_iff.mp e1).1
        simp at this
        omega
      rw [e0] at e1 e2
      have e1 : a = c := by simpa using e1
      have e2 : (b, 1) = s := by simpa using e2
      subst e1 e2
      rw [upd_ne naL, upd_same]
      rfl
theorem RunsI.bump {H H1 : Hp} {L : Addr} {acc : List Sec} {as : List Addr} {k : Bool} {n : Nat} {a : Addr} (h : RunsI H H1 L (acc ++ [(k, n)]) (as ++ [a])) :
    RunsI H (upd H1 a (.lst [.str (letterS k), .int ((n : Nat) + 1)])) L (acc ++ [(k, n + 1)]) (as ++ [a]) := by
  have hl := h.len
  rw [List.length_append, List.length_append] at hl
  have hl : as.length = acc.length := by simpa using hl
  have na := h.new a (by simp)
  have nas : a ∉ as := fun z => by
    have := (List.nodup_append.mp h.nd).2.2 a z a (by simp)
    exact this rfl
  refine ⟨by rw [upd_ne na.2.symm]; exact h.at_, by simp [hl], h.nd, h.new, fun j c s e1 e2 => ?_⟩
  rcases Nat.lt_or_ge j as.length with lt | ge
  · rw [List.getElem?_append_left (by rw [← hl]; exact lt)] at e2
    have e1' := e1
    rw [List.getElem?_append_left lt] at e1'
    rw [upd_ne (fun (z : c = a) => nas (by rw [← z]; exact List.mem_of_getElem? e1'))]
    exact h.it j c s e1 (by rw [List.getElem?_append_left (by rw [← hl]; exact lt)]; exact e2)
  · rw [List.getElem?_append_right ge] at e1
    rw [List.getElem?_append_right (by rw [← hl]; exact ge), ← hl] at e2
    have e0 : j - as.length = 0 := by
      have := (List.getElem?_eq_some_iff.mp e1).1
      simp at this
      omega
    rw [e0] at e1 e2
    have e1 : a = c := by simpa using e1
    have e2 : (k, n + 1) = s := by simpa using e2
    subst e1 e2
    rw [upd_same]
    rfl
theorem ok_runs {f C lp kp : Addr} {fd : FuncData} (F : Fb K mg "_runs" sRuns ["units"] f fd) (R : RoadT K w mg C lp kp) : FnOk P w K mg base CX0 1 f fd ["units"] spRuns := by
  refine F.fn.ok scRuns (fun vs H Q E h => ?_) (fun cdv A outer s H vs Q E hr h => ?_)
  · obtain ⟨u, bs, rfl, _⟩ := h
    rfl
  · obtain ⟨u, bs, rfl, hu, hlen, k⟩ := h
    have nd := scRuns.nd
    refine ⟨_, pss_cons (ps_set (i := 1) nd rfl (.inl rfl) (pe_lst pa_nil))
      (pss_cons (ps_for PassesOwn.never rfl (pi_str (pv 0)) (pg_name (i := 2) nd rfl (.inl rfl))
        (pss_one (ps_if (PW.pt (pw_and (pt_truth (pv 1) (by intro _; rfl)) (pw_and1 (pt_cmpR op_eq (pe_ix ix_list (pe_ix ix_list (pv 1) (pe_un un_neg pe_int) (fun _ _ => rfl)) pe_int (fun _ _ => rfl)) (pv 2) (nomark _)))))
          (pss_one (ps_augS (pe_ix ix_list (pv 1) (pe_un un_neg pe_int) (fun _ _ => rfl)) pe_int pg_list pe_int ip_add set_list))
          (pss_one (ps_expr (pe_bm PySem.F.plainAttrs_list PySem.F.slot_list_append PySem.F.type_list_append mt_append (pv 1) (pa_cons (pe_lst (pa_cons (pv 2) (pa_cons pe_int pa_nil))) pa_nil)))))))
      (pss_one (ps_ret (pe_lc (own := [("letter", 2), ("length", 3)]) (g := gUnl K 2 (gCons (gName 2) (gCons (gName 3) gNil))) (tt := tYes) (te := tTup (tCons (tKGet1 K w (tC (.ref kp)) (tVar 2)) (tCons (tVar 3) tNil))) (by rfl) nd (pi_list (pv 1)) (blkOk_by (N := nRuns) (sc := defScope sRuns) (by decide +kernel))
        (fun _ _ _ _ _ => pg_unl rfl (pgs_cons (pg_name (i := 2) nd rfl (Or.inl rfl)) (pgs_cons (pg_name (i := 3) nd rfl (Or.inl rfl)) pgs_nil))) (fun _ _ _ _ _ => pts_nil)
        (fun _ _ _ _ _ => pe_tup (pa_cons (pe_kget1 (pe_glob (v := .ref kp) (by rfl) R.mgK rfl) (pv 2) ⟨rfl, rfl, rfl, rfl⟩) (pa_cons (pv 3) pa_nil))))))), ?_⟩
    refine ⟨Nat.zero_le _, fun L hL => ?_⟩
    have s0 : Same H (upd H L (.lst [])) := fun b o e => by rw [upd_ne (ne_of_none e hL)]; exact e
    have hsz : u.cps.size = bs.length := by
      have := congrArg List.length hu
      simpa using this
    refine ⟨_, rfl, u, rfl, for_it walk_str (fun i σ H1 => ∃ v2 as, σ = [some (.str u), some (.ref L), v2, none] ∧ Same H H1 ∧ RunsI H H1 L (runsOf (bs.take i)) as)
      ⟨none, [], rfl, s0, upd_same, rfl, by simp, fun a ha => by simp at ha, fun j a s e => by simp at e⟩ (fun _ _ _ _ _ => True.intro) ?_ ?_⟩
    · rintro i x σ H1 H2 hi ⟨v2, as, rfl, s1, I⟩ ⟨e, c, hc, ex⟩
      subst e
      have hib : i < bs.length := by rw [hsz] at hi; exact hi
      obtain ⟨b, hb⟩ : ∃ b, bs[i]? = some b := ⟨_, List.getElem?_eq_getElem hib⟩
      have ecb : c = letterC b := by
        have h1 : u.cps.toList[i]? = some c := by simpa using hc
        rw [hu, List.getElem?_map, hb] at h1
        exact (Option.some.inj h1).symm
      rw [ecb, letterS_eq] at ex
      subst ex
      rw [tk1 hb, runsOf_snoc]
      have hlen2 : (runsOf (bs.take i)).length ≤ 1000 := Nat.le_trans (runsOf_len _) (by rw [List.length_take]; omega)
      generalize runsOf (bs.take i) = acc at *
      cases hl : acc.getLast? with
      | none =>
        have ea : acc = [] := List.getLast?_eq_none_iff.mp hl
        subst ea
        have eas : as = [] := List.length_eq_zero_iff.mp I.len
        subst eas
        have er : rstep [] b = [(b, 1)] := rfl
        rw [er]
        have hat := I.at_
        refine ⟨_, rfl, false, .inl ⟨_, SqL.of hat, rfl⟩, iteF ?_⟩
        refine iteF ?_
        refine ⟨_, rfl, .inl ⟨rfl, _, SqL.of hat⟩, _, rfl, by show 2 ≤ sizeLine; decide, fun a ha => ?_⟩
        have naL : L ≠ a := ne_of_none hat ha
        refine ⟨L, _, .ref a, rfl, rfl, by rw [upd_ne naL]; exact hat, by show 0 < sizeLine; decide, ?_⟩
        exact ⟨_, [a], rfl, fun b' o e => by rw [upd_ne (ne_of_none e hL), upd_ne (ne_of_none (s1 _ _ e) ha)]; exact s1 _ _ e, I.more s1 hL ha b⟩
      | some r =>
        obtain ⟨k', n⟩ := r
        obtain ⟨acc', ea⟩ := List.getLast?_eq_some_iff.mp hl
        subst ea
        obtain ⟨as', a, eas, hl'⟩ := snoc_of (l := as) (m := acc'.length) (by rw [I.len]; simp)
        subst eas
        have hat := I.at_
        have hat2 : H2 L = some (.lst (as'.map V.ref ++ [V.ref a])) := by rw [hat, List.map_append]; rfl
        have ha := I.it acc'.length a (k', n) (by rw [← hl']; simp) (by simp)
        refine ⟨_, rfl, true, .inl ⟨_, SqL.of hat2, by simp⟩, iteT ?_⟩
        refine ⟨_, rfl, _, rfl, L, _, _, .ref a, rfl, rfl, SqL.of hat2, atI_last _ _, a, _, _, _, rfl, rfl, SqL.of ha, rfl, _, rfl, rfl, _, rfl, ?_⟩
        rw [letterS_inj]
        by_cases hk : k' = b
        · rw [decide_eq_true hk]
          refine iteT ?_
          have er : rstep (acc' ++ [(k', n)]) b = acc' ++ [(k', n + 1)] := by
            unfold rstep
            rw [hl]
            simp [hk]
          rw [er]
          refine ⟨_, rfl, _, rfl, L, _, _, .ref a, rfl, rfl, SqL.of hat2, atI_last _ _, a, _, _, _, rfl, rfl, SqL.of ha, rfl, _, _, rfl, rfl, a, _, _, 1, rfl, rfl, ha, rfl, ?_⟩
          have na := I.new a (by simp)
          exact ⟨_, _, rfl, fun b' o e => by rw [upd_ne (ne_of_none e na.1)]; exact s1 _ _ e, I.bump⟩
        · rw [decide_eq_false hk]
          refine iteF ?_
          have er : rstep (acc' ++ [(k', n)]) b = acc' ++ [(k', n)] ++ [(b, 1)] := by
            unfold rstep
            rw [hl]
            simp [hk]
          rw [er]
          refine ⟨_, rfl, .inl ⟨rfl, _, SqL.of hat⟩, _, rfl, by show 2 ≤ sizeLine; decide, fun a2 ha2 => ?_⟩
          have naL : L ≠ a2 := ne_of_none hat ha2
          refine ⟨L, _, .ref a2, rfl, rfl, by rw [upd_ne naL]; exact hat, ?_, ?_⟩
          · rw [List.length_map, I.len]
            exact small1000 hlen2
          · exact ⟨_, as' ++ [a] ++ [a2], rfl, fun b' o e => by rw [upd_ne (ne_of_none e hL), upd_ne (ne_of_none (s1 _ _ e) ha2)]; exact s1 _ _ e, I.more s1 hL ha2 b⟩
    · rintro σ H1 ⟨v2, as, rfl, s1, I⟩
      have e9 : bs.take u.cps.size = bs := by rw [hsz, List.take_length]
      rw [e9] at I
      have hlen2 := runsOf_len bs
      generalize runsOf bs = acc at *
      refine ⟨_, rfl, L, rfl, ⟨_, SqL.of I.at_⟩, fun D hD => ?_⟩
      have hL1 := I.at_
      have nDL : L ≠ D := ne_of_none hL1 hD
      have hlz : (as.map V.ref).length = acc.length := by rw [List.length_map, I.len]
      refine lc_it walk_list (fun i H2 => Same H1 H2 ∧ ∃ ts : List Addr, H2 D = some (.lst (ts.map V.ref)) ∧ ts.length = i ∧ ∀ (j : Nat) (t : Addr) (s : Sec), ts[j]? = some t → acc[j]? = some s → H2 t = some (.tup (secV s)))
        ⟨fun b o e => by rw [upd_ne (ne_of_none e hD)]; exact e, [], upd_same, rfl, fun j t s e => by simp at e⟩ (fun i H2 _ ⟨k2, _⟩ => SqL.of (k2 _ _ hL1)) ?_ ?_
      · rintro i y H2 H3 hi ⟨k2, ts, hD2, lts, hts⟩ ⟨e, hy⟩
        subst e
        have hic : i < acc.length := by rw [hlz] at hi; exact hi
        obtain ⟨a, ha, rfl⟩ : ∃ a, as[i]? = some a ∧ y = V.ref a := by
          rw [List.getElem?_map] at hy
          obtain ⟨t, z1, z2⟩ := Option.map_eq_some_iff.mp hy
          exact ⟨t, z1, z2.symm⟩
        have hc : acc[i]? = some acc[i] := List.getElem?_eq_getElem hic
        have hal := k2 _ _ (I.it i a _ ha hc)
        have hkd : KDct K w kp (letterS acc[i].1) (.str (kindS acc[i].1)) := by
          cases acc[i].1
          · exact R.kN
          · exact R.kW
        refine ⟨a, _, rfl, SqL.of hal, rfl, _, _, rfl, _, _, rfl, rfl, rfl, yes_of ?_⟩
        refine ⟨kp, rfl, R.kM, ⟨_, _, R.kN⟩, _, rfl, _, _, rfl, hkd, _, rfl, by show 2 ≤ sizeLine; decide, fun t ht => ?_⟩
        have nDt : D ≠ t := ne_of_none hD2 ht
        refine ⟨_, by rw [upd_ne nDt]; exact hD2, by rw [List.length_map, lts]; exact small1000 (by omega), fun b o e => ?_, ts ++ [t], by rw [upd_same, List.map_append]; rfl, by rw [List.length_append, lts]; rfl, fun j t2 s e1 e2 => ?_⟩
        · rw [upd_ne (ne_of_none e hD), upd_ne (ne_of_none (k2 _ _ e) ht)]
          exact k2 _ _ e
        · rcases Nat.lt_or_ge j ts.length with lt | ge
          · rw [List.getElem?_append_left lt] at e1
            have q := hts j t2 s e1 e2
            rw [upd_ne (ne_of q hD2 (by intro z; cases z)), upd_ne (ne_of_none q ht)]
            exact q
          · rw [List.getElem?_append_right ge] at e1
            have e0 : j - ts.length = 0 := by
              have := (List.getElem?_eq_some_iff.mp e1).1
              simp at this
              omega
            rw [e0] at e1
            have e1 : t = t2 := by simpa using e1
            subst e1
            have ej : j = i := by omega
            rw [ej, hc] at e2
            cases e2
            rw [upd_ne nDt.symm, upd_same]
            rfl
      · rintro H2 ⟨k2, ts, hD2, lts, hts⟩
        have hD0 : H D = none := by
          cases q : H D with
          | none => rfl
          | some o =>
            rw [s1 _ _ q] at hD
            cases hD
        exact k H2 D (s1.trans k2) hD0 ⟨ts, hD2, by rw [lts, hlz], hts⟩
end
end Sl

set_option Elab.async false
set_option linter.all false
set_option maxRecDepth 100000
set_option maxHeartbeats 1000000
namespace Sl
open PySem PySem.Spec L2 OwnR LamX
abbrev spRInit (C : Addr) : Sp := fun vs H Q E => ∃ ws rest, vs = ws ++ rest ∧ ws.length = (["self"] : List Str).length ∧ rest.length ≤ sizeLine ∧ ∀ p, H p = Option.none → spRInit0 C (ws ++ [V.ref p]) (upd H p (.tup rest)) Q E
section
variable {P : Program} {w : World} {K : PySem.W.Frag} {mg : Str → Option Value} {base : Heap}
def spOfUnits (C : Addr) : Sp := fun vs H Q _ => ∃ (u : Str) (bs : List Bool), vs = [.ref C, .str u] ∧ u.cps.toList = bs.map letterC ∧ bs.length ≤ 1000 ∧ SecsOk (runsOf bs) ∧ ∀ H' p, Same H H' → H p = none → RoadAt C H' p (runsOf bs) → Q (.ref p) H'
theorem scOfUnits : FnScope ["cls", "units", "sections"] ["cls", "units"] (defScope sROfUnits) := ⟨rfl, rfl, rfl, by decide +kernel, rfl, by decide +kernel, by decide +kernel⟩
theorem ok_ofUnits {f fI fR C lp kp : Addr} {fd dR : FuncData} (F : Fun K "of_units" "Road.of_units" sROfUnits f fd) (M : Mg mg) (R : RoadT K w mg C lp kp) (MK : Mk K C fI) (BR : Fb K mg "_runs" sRuns ["units"] fR dR)
    (GR : FnOk P w K mg base CX0 1 fR dR ["units"] spRuns) (GI : FnR P w K mg base CX0 3 fI (spRInit C)) : FnOk P w K mg base CX0 5 f fd ["cls", "units"] (spOfUnits C) := by
  refine F.ok scOfUnits (fun vs H Q E h => ?_) (fun cdv A outer s H vs Q E hr h => ?_)
  · obtain ⟨u, bs, rfl, _⟩ := h
    rfl
  · obtain ⟨u, bs, rfl, hu, hlen, S, k⟩ := h
    have nd := scOfUnits.nd
    refine ⟨_, pss_cons (ps_if (pt_not (pt_val (pe_callB call_isi (by rfl) M.isinstance boot_isinstance (pa_cons (pv 1) (pa_cons (pe_bltn (v := .ty "str") (by rfl) M.str boot_tStr rfl) pa_nil))))) (pss_one ps_never) pss_nil)
      (pss_cons (ps_set (i := 2) nd rfl (.inl rfl) (pe_call GR (hr.mono (by decide)) (by rfl) BR.at_ BR.fn.kp BR.bd .nil pass0 (pa_cons (pv 1) pa_nil)))
      (pss_one (ps_ret (pe_makeLS MK GI hr pass0 (pv 0) (pv 2))))), ?_⟩
    refine ⟨_, rfl, _, _, _, _, true, rfl, .ty _, .base (.str u), kit_ty (by decide +kernel), true, rfl, iteF ?_⟩
    refine ⟨_, rfl, u, bs, rfl, hu, hlen, fun H1 p s1 hp ⟨ts, h1, h2, h3⟩ => ?_⟩
    refine ⟨_, rfl, rfl, _, rfl, p, ts.map V.ref, rfl, .inr (SqL.of h1), fun x dx hx hdx ne => ?_⟩
    refine ⟨[.ref x], ts.map V.ref, rfl, rfl, by rw [List.length_map, h2]; have := S.few; exact Nat.le_of_lt (small1000 (by omega)), fun t ht => ?_⟩
    have hxt : x ≠ t := fun z => by
      rw [← z, upd_same] at ht
      cases ht
    have old : ∀ b o, H1 b = some o → (upd (upd (upd H1 dx (.own x)) x (.ins C dx [])) t (.tup (ts.map V.ref))) b = some o := fun b o e => by
      have e2 : (upd (upd H1 dx (.own x)) x (.ins C dx [])) b = some o := by
        rw [upd_ne (ne_of_none e hx), upd_ne (ne_of_none e hdx)]
        exact e
      rw [upd_ne (ne_of_none e2 ht)]
      exact e2
    refine ⟨x, dx, t, runsOf bs, rfl, by rw [upd_ne hxt, upd_same], ⟨ts, upd_same, h2, fun i a s e1 e2 => old _ _ (h3 i a s e1 e2)⟩, S, fun H2 us kp hX hus => ⟨rfl, ?_⟩⟩
    refine k H2 x (fun b o e => kp b o (old _ _ (s1 _ _ e)) (ne_of_none (s1 _ _ e) hx)) ?_ ⟨dx, t, us, hX, ⟨ts, ?_, h2, fun i a s e1 e2 => ?_⟩, hus⟩
    · cases q : H x with
      | none => rfl
      | some o =>
        rw [s1 _ _ q] at hx
        cases hx
    · exact kp _ _ upd_same hxt.symm
    · have q := h3 i a s e1 e2
      exact kp _ _ (old _ _ q) (ne_of_none q hx)
end
end Sl

/-! Driving, place by place. -/
namespace Sl
open OwnR
section
variable {N : Type} [DecidableEq N]
/-- the cars at a place: their order, their ticks -/
structure Pl (N : Type) where
  ord : List N
  tk : N → Int
def freeP (pace : N → Int) (p : Pl N) (len : Nat) (n : N) : Int := p.tk n + pace n * (len : Int)
def stepP (pace : N → Int) (p : Pl N) (s : Bool × Nat) : Pl N :=
  if s.1 then ⟨sortBy (freeP pace p s.2) p.ord, freeP pace p s.2⟩ else ⟨p.ord, tickOf (foll (freeP pace p s.2) p.ord)⟩
def leadP (pace : N → Int) (p : Pl N) (s : Bool × Nat) (n : N) : Option N := if s.1 then none else leadOf (foll (freeP pace p s.2) p.ord) n
def plc (pace : N → Int) (p0 : Pl N) (secs : List (Bool × Nat)) (k : Nat) : Pl N := (secs.take k).foldl (stepP pace) p0
theorem plc_zero (pace : N → Int) (p0 : Pl N) (secs : List (Bool × Nat)) : plc pace p0 secs 0 = p0 := rfl
theorem plc_succ (pace : N → Int) (p0 : Pl N) (secs : List (Bool × Nat)) {k : Nat} {s : Bool × Nat} (h : secs[k]? = some s) : plc pace p0 secs (k + 1) = stepP pace (plc pace p0 secs k) s := by
  unfold plc
  rw [List.take_add_one, h, List.foldl_append]
  rfl
/-- the leader in the section k -/
def ldr (pace : N → Int) (p0 : Pl N) (secs : List (Bool × Nat)) (k : Nat) (n : N) : Option N := match secs[k]? with
  | none => none
  | some s => leadP pace (plc pace p0 secs k) s n
theorem stepP_perm (pace : N → Int) (p : Pl N) (s : Bool × Nat) : (stepP pace p s).ord.Perm p.ord := by
  unfold stepP
  split
  · exact sortBy_perm _ _
  · exact List.Perm.refl _
theorem fold_perm (pace : N → Int) : ∀ (l : List (Bool × Nat)) (p : Pl N), (l.foldl (stepP pace) p).ord.Perm p.ord
  | [], _ => List.Perm.refl _
  | s :: r, p => (fold_perm pace r (stepP pace p s)).trans (stepP_perm pace p s)
theorem plc_perm (pace : N → Int) (p0 : Pl N) (secs : List (Bool × Nat)) (k : Nat) : (plc pace p0 secs k).ord.Perm p0.ord := fold_perm pace _ p0
end
end Sl

set_option Elab.async false
set_option linter.all false
set_option maxRecDepth 100000
set_option maxHeartbeats 1000000
namespace Sl
open PySem PySem.Spec L2 OwnR LamX
/-! ### a Drive's attributes -/
theorem k_ps : ¬ (("_paces" : Str) = "_sections") := by decide +kernel
theorem k_ts : ¬ (("_ticks" : Str) = "_sections") := by decide +kernel
theorem k_tp : ¬ (("_ticks" : Str) = "_paces") := by decide +kernel
theorem k_os : ¬ (("_orders" : Str) = "_sections") := by decide +kernel
theorem k_op : ¬ (("_orders" : Str) = "_paces") := by decide +kernel
theorem k_ot : ¬ (("_orders" : Str) = "_ticks") := by decide +kernel
theorem k_ls : ¬ (("_leaders" : Str) = "_sections") := by decide +kernel
theorem k_lp : ¬ (("_leaders" : Str) = "_paces") := by decide +kernel
theorem k_lt : ¬ (("_leaders" : Str) = "_ticks") := by decide +kernel
theorem k_lo : ¬ (("_leaders" : Str) = "_orders") := by decide +kernel
def df1 (sc : Addr) : List (Str × V) := putF "_sections" (.ref sc) []
def df2 (sc pd : Addr) : List (Str × V) := putF "_paces" (.ref pd) (df1 sc)
def df3 (sc pd lt : Addr) : List (Str × V) := putF "_ticks" (.ref lt) (df2 sc pd)
def df4 (sc pd lt lo : Addr) : List (Str × V) := putF "_orders" (.ref lo) (df3 sc pd lt)
def df5 (sc pd lt lo ll : Addr) : List (Str × V) := putF "_leaders" (.ref ll) (df4 sc pd lt lo)
section
variable (sc pd lt lo ll : Addr)
theorem df2_paces : (df2 sc pd).lookup ("_paces" : Str) = some (.ref pd) := by unfold df2; rw [lookup_putF, if_pos rfl]
theorem df3_ticks : (df3 sc pd lt).lookup ("_ticks" : Str) = some (.ref lt) := by unfold df3; rw [lookup_putF, if_pos rfl]
theorem df3_paces : (df3 sc pd lt).lookup ("_paces" : Str) = some (.ref pd) := by unfold df3; rw [lookup_putF, if_neg (Ne.symm k_tp)]; exact df2_paces sc pd
theorem df5_sections : (df5 sc pd lt lo ll).lookup ("_sections" : Str) = some (.ref sc) := by
  unfold df5 df4 df3 df2 df1
  rw [lookup_putF, if_neg (Ne.symm k_ls), lookup_putF, if_neg (Ne.symm k_os), lookup_putF, if_neg (Ne.symm k_ts), lookup_putF, if_neg (Ne.symm k_ps), lookup_putF, if_pos rfl]
theorem df5_paces : (df5 sc pd lt lo ll).lookup ("_paces" : Str) = some (.ref pd) := by
  unfold df5 df4
  rw [lookup_putF, if_neg (Ne.symm k_lp), lookup_putF, if_neg (Ne.symm k_op)]
  exact df3_paces sc pd lt
theorem df5_ticks : (df5 sc pd lt lo ll).lookup ("_ticks" : Str) = some (.ref lt) := by
  unfold df5 df4
  rw [lookup_putF, if_neg (Ne.symm k_lt), lookup_putF, if_neg (Ne.symm k_ot)]
  exact df3_ticks sc pd lt
theorem df5_orders : (df5 sc pd lt lo ll).lookup ("_orders" : Str) = some (.ref lo) := by
  unfold df5 df4
  rw [lookup_putF, if_neg (Ne.symm k_lo), lookup_putF, if_pos rfl]
theorem df5_leaders : (df5 sc pd lt lo ll).lookup ("_leaders" : Str) = some (.ref ll) := by
  unfold df5
  rw [lookup_putF, if_pos rfl]
theorem df5_no {m : Str} (h1 : ¬ m = "_sections") (h2 : ¬ m = "_paces") (h3 : ¬ m = "_ticks") (h4 : ¬ m = "_orders") (h5 : ¬ m = "_leaders") : (df5 sc pd lt lo ll).lookup m = none := by
  unfold df5 df4 df3 df2 df1
  rw [lookup_putF, if_neg h5, lookup_putF, if_neg h4, lookup_putF, if_neg h3, lookup_putF, if_neg h2, lookup_putF, if_neg h1]
  rfl
theorem df1_len : (df1 sc).length = 1 := rfl
theorem putF_len (f : Str) (v : V) : ∀ l : List (Str × V), (putF f v l).length ≤ l.length + 1
  | [] => by simp [putF]
  | (g, x) :: r => by
    unfold putF
    split
    · simp
    · have := putF_len f v r
      simp
      omega
end
/-! ### cars as functions of their names -/
def names (cars : List Car) : List Str := cars.map (·.name)
def paceOf (cars : List Car) (n : Str) : Int := ((cars.find? fun c => decide (c.name = n)).map (·.pace)).getD 0
def startOf (cars : List Car) (n : Str) : Int := ((cars.find? fun c => decide (c.name = n)).map (·.start)).getD 0
def pl0 (cars : List Car) : Pl Str := ⟨sortBy (startOf cars) (names cars), startOf cars⟩
abbrev plcC (secs : List Sec) (cars : List Car) (k : Nat) : Pl Str := plc (paceOf cars) (pl0 cars) secs k
abbrev ldrC (secs : List Sec) (cars : List Car) (k : Nat) (n : Str) : Option Str := ldr (paceOf cars) (pl0 cars) secs k n
theorem find_car {cars : List Car} (nd : (names cars).Nodup) {c : Car} (h : c ∈ cars) : cars.find? (fun d => decide (d.name = c.name)) = some c := by
  induction cars with
  | nil => cases h
  | cons a l ih =>
    unfold names at nd
    rw [List.map_cons, List.nodup_cons] at nd
    rcases List.mem_cons.mp h with e | h
    · subst e
      simp
    · have hne : ¬ a.name = c.name := fun z => nd.1 (by rw [z]; exact List.mem_map.mpr ⟨c, h, rfl⟩)
      rw [List.find?_cons, decide_eq_false hne]
      exact ih nd.2 h
theorem paceOf_car {cars : List Car} (nd : (names cars).Nodup) {c : Car} (h : c ∈ cars) : paceOf cars c.name = c.pace := by
  unfold paceOf
  rw [find_car nd h]
  rfl
theorem startOf_car {cars : List Car} (nd : (names cars).Nodup) {c : Car} (h : c ∈ cars) : startOf cars c.name = c.start := by
  unfold startOf
  rw [find_car nd h]
  rfl
theorem pl0_perm (cars : List Car) : (pl0 cars).ord.Perm (names cars) := sortBy_perm _ _
theorem plcC_perm (secs : List Sec) (cars : List Car) (k : Nat) : (plcC secs cars k).ord.Perm (names cars) := (plc_perm _ _ _ _).trans (pl0_perm cars)
/-- the dict of the paces -/
def paceK (cars : List Car) : List (Key × V) := cars.map fun c => (Sum.inr c.name, V.int c.pace)
theorem valV_names {g : Car → V} {cars : List Car} (nd : (names cars).Nodup) {c : Car} (h : c ∈ cars) : valV (cars.map fun c => ((Sum.inr c.name : Key), g c)) (Sum.inr c.name : Key) = some (g c) := by
  induction cars with
  | nil => cases h
  | cons a l ih =>
    unfold names at nd
    rw [List.map_cons, List.nodup_cons] at nd
    rcases List.mem_cons.mp h with e | h
    · subst e
      exact valV_pos rfl
    · have hne : ¬ (Sum.inr a.name : Key) = Sum.inr c.name := fun z => nd.1 (by rw [Sum.inr.inj z]; exact List.mem_map.mpr ⟨c, h, rfl⟩)
      rw [List.map_cons, valV_neg hne]
      exact ih nd.2 h
theorem paceK_get {cars : List Car} (nd : (names cars).Nodup) {n : Str} (h : n ∈ names cars) : valV (paceK cars) (Sum.inr n : Key) = some (.int (paceOf cars n)) := by
  obtain ⟨c, hc, rfl⟩ := List.mem_map.mp h
  rw [paceOf_car nd hc]
  exact valV_names (g := fun c => V.int c.pace) nd hc
/-! ### a Drive of which m sections are driven -/
structure DW where
  dx : Addr
  sc : Addr
  pd : Addr
  lt : Addr
  lo : Addr
  ll : Addr
  tds : List Addr
  ods : List Addr
  lds : List Addr
structure DP (C : Addr) (H0 H : Hp) (p : Addr) (secs : List Sec) (cars : List Car) (m : Nat) (W : DW) : Prop where
  ext : ExtN H0 H
  ins : H p = some (.ins C W.dx (df5 W.sc W.pd W.lt W.lo W.ll))
  sec : SecsAt H W.sc secs
  pac : H W.pd = some (.dK (paceK cars))
  lt : H W.lt = some (.lst (W.tds.map V.ref))
  ltl : W.tds.length = m + 1
  lo : H W.lo = some (.lst (W.ods.map V.ref))
  lol : W.ods.length = m + 1
  ll : H W.ll = some (.lst (W.lds.map V.ref))
  lll : W.lds.length = m
  tk : ∀ (k : Nat) (d : Addr), W.tds[k]? = some d → ∃ kv, H d = some (.dK kv) ∧ ∀ n ∈ names cars, valV kv (Sum.inr n : Key) = some (.int ((plcC secs cars k).tk n))
  od : ∀ (k : Nat) (d : Addr), W.ods[k]? = some d → H d = some (.lst ((plcC secs cars k).ord.map V.str))
  ld : ∀ (k : Nat) (d : Addr), W.lds[k]? = some d → ∃ kv, H d = some (.dK kv) ∧ ∀ n, valV kv (Sum.inr n : Key) = (ldrC secs cars k n).map V.str
  newp : New H0 p
  newt : New H0 W.lt
  newo : New H0 W.lo
  newl : New H0 W.ll
  nto : W.lt ≠ W.lo
  ntl : W.lt ≠ W.ll
  nol : W.lo ≠ W.ll
  odn : ∀ d ∈ W.ods, d ≠ W.lt ∧ d ≠ W.lo ∧ d ≠ W.ll
theorem DP.step {C : Addr} {H0 H H' : Hp} {p : Addr} {secs : List Sec} {cars : List Car} {m : Nat} {W : DW} (D : DP C H0 H p secs cars m W) (e : ExtN H H') : DP C H0 H' p secs cars m W where
  ext := D.ext.trans e
  ins := ExtN.ins e D.ins
  sec := D.sec.ext e
  pac := ExtN.dK e D.pac
  lt := ExtN.lst e D.lt
  ltl := D.ltl
  lo := ExtN.lst e D.lo
  lol := D.lol
  ll := ExtN.lst e D.ll
  lll := D.lll
  tk := fun k d h => let ⟨kv, a, b⟩ := D.tk k d h; ⟨kv, ExtN.dK e a, b⟩
  od := fun k d h => ExtN.lst e (D.od k d h)
  ld := fun k d h => let ⟨kv, a, b⟩ := D.ld k d h; ⟨kv, ExtN.dK e a, b⟩
  newp := D.newp
  newt := D.newt
  newo := D.newo
  newl := D.newl
  nto := D.nto
  ntl := D.ntl
  nol := D.nol
  odn := D.odn
/-- the lists of a drive of which m sections are driven, wherever they stand -/
structure DL (H0 H : Hp) (secs : List Sec) (cars : List Car) (m : Nat) (W : DW) : Prop where
  ext : ExtN H0 H
  lt : H W.lt = some (.lst (W.tds.map V.ref))
  ltl : W.tds.length = m + 1
  lo : H W.lo = some (.lst (W.ods.map V.ref))
  lol : W.ods.length = m + 1
  ll : H W.ll = some (.lst (W.lds.map V.ref))
  lll : W.lds.length = m
  tk : ∀ (k : Nat) (d : Addr), W.tds[k]? = some d → ∃ kv, H d = some (.dK kv) ∧ ∀ n ∈ names cars, valV kv (Sum.inr n : Key) = some (.int ((plcC secs cars k).tk n))
  od : ∀ (k : Nat) (d : Addr), W.ods[k]? = some d → H d = some (.lst ((plcC secs cars k).ord.map V.str))
  ld : ∀ (k : Nat) (d : Addr), W.lds[k]? = some d → ∃ kv, H d = some (.dK kv) ∧ ∀ n, valV kv (Sum.inr n : Key) = (ldrC secs cars k n).map V.str
  newt : New H0 W.lt
  newo : New H0 W.lo
  newl : New H0 W.ll
  nto : W.lt ≠ W.lo
  ntl : W.lt ≠ W.ll
  nol : W.lo ≠ W.ll
  odn : ∀ d ∈ W.ods, d ≠ W.lt ∧ d ≠ W.lo ∧ d ≠ W.ll
theorem DL.step {H0 H H' : Hp} {secs : List Sec} {cars : List Car} {m : Nat} {W : DW} (D : DL H0 H secs cars m W) (e : ExtN H H') : DL H0 H' secs cars m W where
  ext := D.ext.trans e
  lt := ExtN.lst e D.lt
  ltl := D.ltl
  lo := ExtN.lst e D.lo
  lol := D.lol
  ll := ExtN.lst e D.ll
  lll := D.lll
  tk := fun k d h => let ⟨kv, a, b⟩ := D.tk k d h; ⟨kv, ExtN.dK e a, b⟩
  od := fun k d h => ExtN.lst e (D.od k d h)
  ld := fun k d h => let ⟨kv, a, b⟩ := D.ld k d h; ⟨kv, ExtN.dK e a, b⟩
  newt := D.newt
  newo := D.newo
  newl := D.newl
  nto := D.nto
  ntl := D.ntl
  nol := D.nol
  odn := D.odn
/-- the dict of the starts -/
def startK (cars : List Car) : List (Key × V) := cars.map fun c => (Sum.inr c.name, V.int c.start)
theorem startK_get {cars : List Car} (nd : (names cars).Nodup) {n : Str} (h : n ∈ names cars) : valV (startK cars) (Sum.inr n : Key) = some (.int (startOf cars n)) := by
  obtain ⟨c, hc, rfl⟩ := List.mem_map.mp h
  rw [startOf_car nd hc]
  exact valV_names (g := fun c => V.int c.start) nd hc
theorem startK_keys (cars : List Car) : (startK cars).map (fun kv => kV kv.1) = (names cars).map V.str := by
  unfold startK names
  rw [List.map_map, List.map_map]
  rfl
end Sl

set_option Elab.async false
set_option linter.all false
set_option maxRecDepth 100000
set_option maxHeartbeats 2000000
namespace OwnR
open PySem PySem.Spec PyProof.Rows L2
/-! ### y = {k: v for x in xs} as a statement -/
theorem ps_setDc {X : Cx} {i : Nat} {y : Str} {py : Pos} {kx vx tg iter : Expr} {ifs : List Expr} {scope : Scope} {own : List (Str × Nat)} {pos spos : Pos} {wi : TI} {g : TG} {tt : TT} {tk tv : TE} (hc : X.calm = true) (hN : X.N.Nodup) (hy : X.N[i]? = some y) (hyl : X.env.scope.names.lookup y = some .local)
    (hsw : swapsWith (.DictComp kx vx [⟨tg, iter, ifs, 0⟩] scope pos) (some (.Name y py)) spos.line X.env = pure true) (hi : PI X tg iter wi) (ok : BlkOk X.N X.env.scope scope own)
    (hg : ∀ (s : Shared) (H : Hp) (C : Addr) (cl : List (Str × Addr)) (fp : List Addr), PG (X.blk s H scope (compEnvC scope cl C X.env) fp) tg g)
    (ht : ∀ (s : Shared) (H : Hp) (C : Addr) (cl : List (Str × Addr)) (fp : List Addr), PTs (X.blk s H scope (compEnvC scope cl C X.env) fp) ifs tt)
    (hk : ∀ (s : Shared) (H : Hp) (C : Addr) (cl : List (Str × Addr)) (fp : List Addr), PE (X.blk s H scope (compEnvC scope cl C X.env) fp) kx tk)
    (hv : ∀ (s : Shared) (H : Hp) (C : Addr) (cl : List (Str × Addr)) (fp : List Addr), PE (X.blk s H scope (compEnvC scope cl C X.env) fp) vx tv) (hs : ∀ x, foldedSetIterable iter X.env x = pure x := by intro _; rfl) :
    PS X (.Assign [.Name y py] (.DictComp kx vx [⟨tg, iter, ifs, 0⟩] scope pos) spos) (tAsg (tDc wi g tt tk tv (own.map (·.2))) (gName i)) := by
  refine ⟨fun pins s σ H D I h => ?_⟩
  have h' : tDc wi g tt tk tv (own.map (·.2)) σ H (fun x H1 => gName i x σ H1 D.nx) := h
  rw [exec_Assign_Name_used _ _ _ _ hsw]
  refine wpAny_bind (wpAny_standAt (wpAny_bind ?_))
  show wpAny _ X.A (do let _ ← comprehension (.DictComp kx vx [⟨tg, iter, ifs, 0⟩] scope pos) scope X.env (firstIterPos [⟨tg, iter, ifs, 0⟩] pos) newDict false (eval iter X.env) (some (assign (.Name y py) X.env))) _ _ s
  refine wpAny_bind (thn (dc_core (Qf := fun _ s' => SP X pins D .next s') hc hN I hi ok hg ht hk hv hs h' fun Dn C s' m H' J q hn f => ?_) fun _ s' hq => wpAny_pure (wpAny_pure hq))
  obtain ⟨f0, f1, f2, f3, f4, f5⟩ := f
  show wpAny _ _ (assign (.Name y py) X.env (.ref Dn)) _ _ _
  refine wpAny_assign_Name (store_ok2 (v := V.ref Dn) J hN hy (.inl hyl) rfl (fun s2 J2 ⟨a, sb, ha⟩ => ?_) (.inr hyl))
  have nCa : C ≠ a := ha.elim (fun z => by rw [z]; exact f1) fun z => fun e => f4 y a z e.symm
  exact ⟨m, hn.sameBut sb nCa, fun h3 sb3 => ⟨_, H', J2.turned (t' := s2.toks) (fun b o hb e => (sb3.2 b hb).trans e) f0 f1 f3 f4 f5, q⟩⟩
theorem sw_trueD {kx vx : Expr} {gs : List Comprehension} {scope : Scope} {pos py : Pos} {y : Str} {l : Nat} {env : Env} (hk : env.scope.kind = .function) (hy : env.scope.names.lookup y = some .local) (hl : (py.line == pos.line) = true)
    (ha : (scope.names.any fun (n, k) => n == y && (k == .local || k == .cell)) = false) : swapsWith (.DictComp kx vx gs scope pos) (some (.Name y py)) l env = pure true := by
  have k1 : env.kindOf y = some .local := hy
  have k2 : env.blockKind = .function := by
    unfold Env.blockKind
    rw [hk] <;> rfl
  unfold swapsWith
  simp only [k2, k1, ha, Expr.pos, hl] <;> rfl
end OwnR

set_option Elab.async false
set_option linter.all false
set_option maxRecDepth 100000
set_option maxHeartbeats 2000000
namespace OwnR
open PySem PySem.Spec PyProof.Rows L2
/-! ### a field as a target among others -/
def gFld (K : PySem.W.Frag) (ta : TE) (f : Str) : TG := fun v σ H Q => ta σ H fun x H1 => ∃ a C dx fs, x = .ref a ∧ H1 a = some (.ins C dx fs) ∧ Cls K C ∧ NoAttr K C f ∧ fs.length < 1000 ∧ Q σ (upd H1 a (.ins C dx (putF f v fs)))
theorem pg_fld {X : Cx} {o : Expr} {f : Str} {pos : Pos} {ta : TE} (ha : PE X o ta) : PG X (.Attribute o f pos) (gFld X.K ta f) := by
  refine ⟨fun pins s σ H v u Q I r h => ?_⟩
  rw [assign_Attribute]
  refine wpAny_bind (wpAny_holding (thn (ha.run pins s σ H _ I h) fun ov s1 ⟨x, H1, I1, rx, a, C, dx, fs, ex, ea, c, n, l, q⟩ => ?_))
  subst ex
  obtain rfl : ov = Value.ref a := rx
  refine wpAny_bind (wpAny_standAt (wpAny_bind (wpAny_holding (setattr_ok I1 ea c n l r fun s3 I3 => ?_))))
  exact wpAny_release ⟨σ, _, I3, q⟩
end OwnR

set_option Elab.async false
set_option linter.all false
set_option maxRecDepth 100000
set_option maxHeartbeats 1000000
namespace Sl
open PySem PySem.Spec L2 OwnR LamX
/-- three lists of a Drive, each one longer -/
def upd3 (H : Hp) (W : DW) (td od ld : Addr) : Hp := upd (upd (upd H W.lt (.lst (W.tds.map V.ref ++ [.ref td]))) W.lo (.lst (W.ods.map V.ref ++ [.ref od]))) W.ll (.lst (W.lds.map V.ref ++ [.ref ld]))
def DW.more (W : DW) (td od ld : Addr) : DW := { W with tds := W.tds ++ [td], ods := W.ods ++ [od], lds := W.lds ++ [ld] }
theorem snoc_get {α : Type} {l : List α} {x y : α} {k : Nat} (h : (l ++ [x])[k]? = some y) : l[k]? = some y ∨ (k = l.length ∧ x = y) := by
  rcases Nat.lt_or_ge k l.length with lt | ge
  · rw [List.getElem?_append_left lt] at h
    exact .inl h
  · rw [List.getElem?_append_right ge] at h
    have e0 : k - l.length = 0 := by
      have := (List.getElem?_eq_some_iff.mp h).1
      simp at this
      omega
    rw [e0] at h
    exact .inr ⟨by omega, by simpa using h⟩
theorem DL.push {H0 H : Hp} {secs : List Sec} {cars : List Car} {m : Nat} {W : DW} (D : DL H0 H secs cars m W) {td od ld : Addr} {kt kl : List (Key × V)}
    (h1 : H td = some (.dK kt)) (t1 : ∀ n ∈ names cars, valV kt (Sum.inr n : Key) = some (.int ((plcC secs cars (m + 1)).tk n)))
    (h2 : H od = some (.lst ((plcC secs cars (m + 1)).ord.map V.str))) (o2 : od ≠ W.lt ∧ od ≠ W.lo ∧ od ≠ W.ll)
    (h3 : H ld = some (.dK kl)) (l3 : ∀ n, valV kl (Sum.inr n : Key) = (ldrC secs cars m n).map V.str) : DL H0 (upd3 H W td od ld) secs cars (m + 1) (W.more td od ld) := by
  have old : ∀ b o, H b = some o → b ≠ W.lt → b ≠ W.lo → b ≠ W.ll → upd3 H W td od ld b = some o := fun b o e n1 n2 n3 => by
    unfold upd3
    rw [upd_ne n3, upd_ne n2, upd_ne n1]
    exact e
  have nl : ∀ b o, H b = some o → (∀ xs, o ≠ .lst xs) → upd3 H W td od ld b = some o := fun b o e n =>
    old b o e (ne_of e D.lt (n _)) (ne_of e D.lo (n _)) (ne_of e D.ll (n _))
  refine { D with ext := ?_, lt := ?_, ltl := ?_, lo := ?_, lol := ?_, ll := ?_, lll := ?_, tk := ?_, od := ?_, ld := ?_, odn := ?_ }
  · exact fun b o e n => old b o (D.ext b o e n) (D.newt b o e n) (D.newo b o e n) (D.newl b o e n)
  · show upd3 H W td od ld W.lt = some (.lst ((W.tds ++ [td]).map V.ref))
    unfold upd3
    rw [upd_ne D.ntl, upd_ne D.nto, upd_same, List.map_append]
    rfl
  · show (W.tds ++ [td]).length = _
    rw [List.length_append, D.ltl]
    rfl
  · show upd3 H W td od ld W.lo = some (.lst ((W.ods ++ [od]).map V.ref))
    unfold upd3
    rw [upd_ne D.nol, upd_same, List.map_append]
    rfl
  · show (W.ods ++ [od]).length = _
    rw [List.length_append, D.lol]
    rfl
  · show upd3 H W td od ld W.ll = some (.lst ((W.lds ++ [ld]).map V.ref))
    unfold upd3
    rw [upd_same, List.map_append]
    rfl
  · show (W.lds ++ [ld]).length = _
    rw [List.length_append, D.lll]
    rfl
  · intro k d h
    rcases snoc_get (show (W.tds ++ [td])[k]? = some d from h) with h | ⟨hk, rfl⟩
    · obtain ⟨kv, a, b⟩ := D.tk k d h
      exact ⟨kv, nl _ _ a fun xs z => (nomatch z), b⟩
    · rw [D.ltl] at hk
      subst hk
      exact ⟨kt, nl _ _ h1 fun xs z => (nomatch z), t1⟩
  · intro k d h
    rcases snoc_get (show (W.ods ++ [od])[k]? = some d from h) with h | ⟨hk, rfl⟩
    · have q := D.odn d (List.mem_of_getElem? h)
      exact old _ _ (D.od k d h) q.1 q.2.1 q.2.2
    · rw [D.lol] at hk
      subst hk
      exact old _ _ h2 o2.1 o2.2.1 o2.2.2
  · intro k d h
    rcases snoc_get (show (W.lds ++ [ld])[k]? = some d from h) with h | ⟨hk, rfl⟩
    · obtain ⟨kv, a, b⟩ := D.ld k d h
      exact ⟨kv, nl _ _ a fun xs z => (nomatch z), b⟩
    · rw [D.lll] at hk
      subst hk
      exact ⟨kl, nl _ _ h3 fun xs z => (nomatch z), l3⟩
  · intro d hd
    rcases List.mem_append.mp (show d ∈ W.ods ++ [od] from hd) with hd | hd
    · exact D.odn d hd
    · rw [List.mem_singleton.mp hd]
      exact o2
theorem Tabs.keepL {T : List (Addr × Str)} {H H' : Hp} (t : Tabs T H) (e : ∀ b o, H b = some o → (∀ xs, o ≠ .lst xs) → H' b = some o) : Tabs T H' := fun p hp => by
  obtain ⟨ps, h1, h2, h3⟩ := t p hp
  refine ⟨ps, e _ _ h1 fun xs z => (nomatch z), h2, fun pos cv hc => ?_⟩
  obtain ⟨c, e1, e2⟩ := h3 pos cv hc
  exact ⟨c, e1, e _ _ e2 fun xs z => by unfold CodeO at z; cases z⟩
theorem upd3_keep {H : Hp} {W : DW} {td od ld : Addr} {a b c : List V} (h1 : H W.lt = some (.lst a)) (h2 : H W.lo = some (.lst b)) (h3 : H W.ll = some (.lst c)) : ∀ x o, H x = some o → (∀ xs, o ≠ .lst xs) → upd3 H W td od ld x = some o := fun x o e n => by
  unfold upd3
  rw [upd_ne (ne_of e h3 (n _)), upd_ne (ne_of e h2 (n _)), upd_ne (ne_of e h1 (n _))]
  exact e
theorem lead_map (acc : List (RowT Str)) (n : Str) : ((look acc n).bind fun x => x.2.map V.str) = (leadOf acc n).map V.str := by
  unfold leadOf
  cases look acc n with
  | none => rfl
  | some x => rfl
/-- what the program asks of the class Drive -/
structure DriveT (K : PySem.W.Frag) (mg : Str → Option Value) (C : Addr) : Prop where
  cl : Cls K C
  nS : NoAttr K C "_sections"
  nP : NoAttr K C "_paces"
  nT : NoAttr K C "_ticks"
  nO : NoAttr K C "_orders"
  nL : NoAttr K C "_leaders"
  mgC : mg "Drive" = some (.ref C)
/-- a method of a class, as callers want it -/
structure Fm (K : PySem.W.Frag) (C : Addr) (x qual : Str) (st : Stmt) (ps : List Str) (f : Addr) (fd : FuncData) : Prop where
  fn : Fun K x qual st f fd
  at_ : Meth K C x f
  bd : Binds K fd ps []
section
variable {P : Program} {w : World} {K : PySem.W.Frag} {mg : Str → Option Value} {base : Heap}
def spDriveAll (K : PySem.W.Frag) (T : List (Addr × Str)) : Sp := fun vs H Q _ => ∃ (sc sd pd : Addr) (secs : List Sec) (cars : List Car), vs = [.ref sc, .ref sd, .ref pd] ∧ SecsAt H sc secs ∧ H sd = some (.dK (startK cars)) ∧ H pd = some (.dK (paceK cars)) ∧ SecsOk secs ∧ CarsOk cars ∧ Tabs T H ∧
  ∀ H' t W, DL H H' secs cars secs.length W → H' t = some (.tup [.ref W.lt, .ref W.lo, .ref W.ll]) → New H t → Tabs T H' → Q (.ref t) H'
def nDriveAll : List Str := ["sections", "starts", "paces", "ticks", "orders", "leaders", "kind", "length", "order", "left", "led", "car"]
theorem scDriveAll : FnScope nDriveAll ["sections", "starts", "paces"] (defScope sDriveAll) := ⟨rfl, rfl, rfl, by decide +kernel, rfl, by decide +kernel, by decide +kernel⟩
theorem atI_lst {α : Type} {xs : List α} {m : Nat} {v : α} (hl : xs.length = m + 1) (h : xs[m]? = some v) : atI xs (-1) = some v := by
  obtain ⟨r, x, e, hr⟩ := snoc_of hl
  subst e
  rw [List.getElem?_append_right (by omega), hr] at h
  simp at h
  subst h
  exact atI_last _ _
theorem ok_driveAll {f fO fF c Pt : Addr} {fd dO dF : FuncData} {T : List (Addr × Str)} (F : Fun K "drive_all" "drive_all" sDriveAll f fd) (M : Mg mg)
    (BO : FbC K mg "_in_order" sInOrder ["names", "ticks"] fO dO c) (BF : Fb K mg "_follow" sFollow ["order", "free"] fF dF)
    (GO : FnOk P w K mg base CX0 3 fO dO ["names", "ticks"] (spInOrder K T)) (GF : FnOk P w K mg base CX0 1 fF dF ["order", "free"] (spFollow K)) :
    FnOk P w K mg base CX0 4 f fd ["sections", "starts", "paces"] (spDriveAll K T) := by
  refine F.ok scDriveAll (fun vs H Q E h => ?_) (fun cdv A outer s H vs Q E hr h => ?_)
  · obtain ⟨sc, sd, pd, secs, cars, rfl, _⟩ := h
    rfl
  · obtain ⟨sc, sd, pd, secs, cars, rfl, hS, hsd, hpd, SO, CO, hT, k⟩ := h
    have nd := scDriveAll.nd
    have hu := hu_of hr
    refine ⟨_, pss_cons (ps_set (i := 3) nd rfl (.inr rfl) (pe_lst (pa_cons (pv 1) pa_nil)))
      (pss_cons (ps_set (i := 4) nd rfl (.inl rfl) (pe_lst (pa_cons (pe_call GO hr (by rfl) BO.at_ BO.fn.kp BO.bd .nil pass0 (pa_cons (pe_callTy (call_list_dK rfl) (by rfl) M.list (by decide +kernel) (pa_cons (pv 1) pa_nil)) (pa_cons (pv 1) pa_nil))) pa_nil)))
      (pss_cons (ps_set (i := 5) nd rfl (.inl rfl) (pe_lst pa_nil))
      (pss_cons (ps_for PassesOwn.never rfl (pi_tup (pv 0)) (pg_tup rfl (pgs_cons (pg_name (i := 6) nd rfl (.inl rfl)) (pgs_cons (pg_name (i := 7) nd rfl (.inr rfl)) pgs_nil)))
        (pss_cons (ps_set (i := 8) nd rfl (.inl rfl) (pe_ix ix_list (pv 4) (pe_un un_neg pe_int) (fun _ _ => rfl)))
        (pss_cons (ps_setDc (i := 9) (own := [("car", 11)]) (g := gName 11) (tt := tYes) (tk := tVar 11) (tv := tOp (rI0 fun i j => .int (i + j)) (tDGet (tOp (rIxL K) (tVar 3) (tUn (rU fun i => .int (-i)) (tC (.int 1)))) (tVar 11)) (tOp (rI CMul fun i j => .int (i * j)) (tDGet (tVar 2) (tVar 11)) (tVar 7))) (by rfl) nd rfl rfl (sw_trueD rfl rfl rfl (by decide +kernel)) (pi_list (pv 8)) (blkOk_by (N := nDriveAll) (sc := defScope sDriveAll) (by decide +kernel))
            (fun _ _ _ _ _ => pg_name (i := 11) nd rfl (Or.inl rfl)) (fun _ _ _ _ _ => pts_nil) (fun _ _ _ _ _ => pv 11)
            (fun _ _ _ _ _ => pe_op op_add (pe_dget hu (pe_ix (r := rIxL K) ix_list (pv 3) (pe_un un_neg pe_int) (fun _ _ => rfl)) (pv 11) (fun _ _ => rfl)) (pe_op op_mul (pe_dget hu (pv 2) (pv 11) (fun _ _ => rfl)) (pv 7))))
        (pss_cons (ps_set (i := 10) nd rfl (.inl rfl) pe_dnewK)
        (pss_cons (ps_if (pt_cmpR op_eq (pv 6) pe_str (nomark _))
            (pss_one (ps_set (i := 8) nd rfl (.inl rfl) (pe_call GO hr (by rfl) BO.at_ BO.fn.kp BO.bd .nil pass0 (pa_cons (pv 8) (pa_cons (pv 9) pa_nil)))))
            (pss_one (ps_asg (pe_call GF (hr.mono (by decide)) (by rfl) BF.at_ BF.fn.kp BF.bd .nil pass0 (pa_cons (pv 8) (pa_cons (pv 9) pa_nil))) (pg_tup rfl (pgs_cons (pg_name (i := 9) nd rfl (.inl rfl)) (pgs_cons (pg_name (i := 10) nd rfl (.inl rfl)) pgs_nil))))))
        (pss_cons (ps_expr (pe_bm PySem.F.plainAttrs_list PySem.F.slot_list_append PySem.F.type_list_append mt_append (pv 3) (pa_cons (pv 9) pa_nil)))
        (pss_cons (ps_expr (pe_bm PySem.F.plainAttrs_list PySem.F.slot_list_append PySem.F.type_list_append mt_append (pv 4) (pa_cons (pv 8) pa_nil)))
        (pss_one (ps_expr (pe_bm PySem.F.plainAttrs_list PySem.F.slot_list_append PySem.F.type_list_append mt_append (pv 5) (pa_cons (pv 10) pa_nil)))))))))))
      (pss_one (ps_ret (pe_tup (pa_cons (pv 3) (pa_cons (pv 4) (pa_cons (pv 5) pa_nil))))))))), ?_⟩
    have ndn : (names cars).Nodup := CO.nd
    refine ⟨_, rfl, by show 1 ≤ sizeLine; decide, fun lt hlt => ?_⟩
    have s1 : Same H (upd H lt (.lst [.ref sd])) := fun b o e => by rw [upd_ne (ne_of_none e hlt)]; exact e
    have hlt1 : (upd H lt (.lst [.ref sd])) lt = some (.lst [.ref sd]) := upd_same
    show tSeq _ _ _ _ (upd H lt (.lst [.ref sd]))
    generalize upd H lt (.lst [.ref sd]) = H1 at s1 hlt1 ⊢
    refine ⟨_, rfl, sd, _, rfl, s1 _ _ hsd, fun l hl => ?_⟩
    rw [startK_keys]
    have s2 : Same H1 (upd H1 l (.lst ((names cars).map V.str))) := fun b o e => by rw [upd_ne (ne_of_none e hl)]; exact e
    have hl2 : (upd H1 l (.lst ((names cars).map V.str))) l = some (.lst ((names cars).map V.str)) := upd_same
    have T2 : Tabs T (upd H1 l (.lst ((names cars).map V.str))) := hT.ext (s1.trans s2)
    refine ⟨_, rfl, l, sd, names cars, _, startOf cars, rfl, SqL.of hl2, s2 _ _ (s1 _ _ hsd), fun n hn => startK_get ndn hn, T2, fun H3 Do e3 T3 n3 hDo => ?_⟩
    have hlt3 := ExtN.lst e3 (s2 _ _ hlt1)
    have x3 : ExtN H H3 := (ExtN.same (s1.trans s2)).trans e3
    have nDot : Do ≠ lt := fun z => n3 lt _ (s2 _ _ hlt1) (fun _ y => nomatch y) z.symm
    refine ⟨by show 1 ≤ sizeLine; decide, fun lo hlo => ?_⟩
    have nto : lt ≠ lo := ne_of_none hlt3 hlo
    have nDo : Do ≠ lo := ne_of_none hDo hlo
    have s4 : Same H3 (upd H3 lo (.lst [.ref Do])) := fun b o e => by rw [upd_ne (ne_of_none e hlo)]; exact e
    have hlo4 : (upd H3 lo (.lst [.ref Do])) lo = some (.lst [.ref Do]) := upd_same
    show tSeq _ _ _ _ (upd H3 lo (.lst [.ref Do]))
    generalize upd H3 lo (.lst [.ref Do]) = H4 at s4 hlo4 ⊢
    have x4 : ExtN H H4 := x3.trans (ExtN.same s4)
    refine ⟨Nat.zero_le _, fun ll hll => ?_⟩
    have s5 : Same H4 (upd H4 ll (.lst [])) := fun b o e => by rw [upd_ne (ne_of_none e hll)]; exact e
    have hll5 : (upd H4 ll (.lst [])) ll = some (.lst []) := upd_same
    have hlt4 := s4 _ _ hlt3
    have ntl : lt ≠ ll := ne_of_none hlt4 hll
    have nol : lo ≠ ll := ne_of_none hlo4 hll
    have nDol : Do ≠ ll := ne_of_none (s4 _ _ hDo) hll
    show tSeq _ _ _ _ (upd H4 ll (.lst []))
    generalize upd H4 ll (.lst []) = H5 at s5 hll5 ⊢
    have x5 : ExtN H H5 := x4.trans (ExtN.same s5)
    have D0 : DL H H5 secs cars 0 ⟨sc, sc, pd, lt, lo, ll, [sd], [Do], []⟩ := by
      refine { ext := x5, lt := s5 _ _ hlt4, ltl := rfl, lo := s5 _ _ hlo4, lol := rfl, ll := hll5, lll := rfl, tk := ?_, od := ?_, ld := ?_, newt := New.of hlt, newo := New.ext x3 (New.of hlo), newl := New.ext x4 (New.of hll), nto := nto, ntl := ntl, nol := nol, odn := ?_ }
      · intro k d h
        have : k = 0 ∧ sd = d := by
          cases k with
          | zero => exact ⟨rfl, by simpa using h⟩
          | succ k => simp at h
        obtain ⟨rfl, rfl⟩ := this
        exact ⟨_, ExtN.dK x5 hsd, fun n hn => startK_get ndn hn⟩
      · intro k d h
        have : k = 0 ∧ Do = d := by
          cases k with
          | zero => exact ⟨rfl, by simpa using h⟩
          | succ k => simp at h
        obtain ⟨rfl, rfl⟩ := this
        exact s5 _ _ (s4 _ _ hDo)
      · intro k d h
        simp at h
      · intro d hd
        rw [List.mem_singleton.mp hd]
        exact ⟨nDot, nDo, nDol⟩
    have T5 : Tabs T H5 := T3.ext (s4.trans s5)
    obtain ⟨us, u1, u2, u3⟩ := hS
    have hus : (us.map V.ref).length = secs.length := by rw [List.length_map, u2]
    refine ⟨_, rfl, sc, rfl, ⟨_, SqT.of (ExtN.tup x5 u1)⟩, for_it walk_tup
      (fun i σ H6 => ∃ v6 v7 v8 v9 v10 W, σ = [some (.ref sc), some (.ref sd), some (.ref pd), some (.ref W.lt), some (.ref W.lo), some (.ref W.ll), v6, v7, v8, v9, v10, none] ∧ DL H H6 secs cars i W ∧ Tabs T H6)
      ⟨none, none, none, none, none, _, rfl, D0, T5⟩ (fun i σ H6 _ ⟨_, _, _, _, _, _, _, D6, _⟩ => SqT.of (ExtN.tup D6.ext u1)) ?_ ?_⟩
    · clear D0 T5 x5 x4 x3 s5 s4 hll5 hlo4 hlt4 hlt3 s1 s2 hlt1 hl2 T2 T3 n3 hDo e3
      rintro i y σ H6z H6 hi ⟨v6, v7, v8, v9, v10, W, rfl, D, hT6⟩ ⟨e, hy⟩
      subst e
      obtain ⟨t, ht, rfl⟩ : ∃ t, us[i]? = some t ∧ y = V.ref t := by
        rw [List.getElem?_map] at hy
        obtain ⟨t, z1, z2⟩ := Option.map_eq_some_iff.mp hy
        exact ⟨t, z1, z2.symm⟩
      have hml : i < secs.length := by rw [hus] at hi; exact hi
      have hs : secs[i]? = some secs[i] := List.getElem?_eq_getElem hml
      have hct := ExtN.tup D.ext (u3 i t _ ht hs)
      have c0 := SO.len _ (List.getElem_mem hml)
      have hfew := SO.few
      refine ⟨t, _, rfl, SqT.of hct, rfl, _, _, rfl, _, _, rfl, rfl, ?_⟩
      generalize secs[i] = sn at hs hct c0 ⊢
      have h99 := c0.2
      have hpd6 := ExtN.dK D.ext hpd
      obtain ⟨td, htd⟩ : ∃ td, W.tds[i]? = some td := ⟨_, List.getElem?_eq_getElem (by rw [D.ltl]; omega)⟩
      obtain ⟨od, hod⟩ : ∃ od, W.ods[i]? = some od := ⟨_, List.getElem?_eq_getElem (by rw [D.lol]; omega)⟩
      obtain ⟨kt, ht1, ht2⟩ := D.tk i td htd
      have ho1 := D.od i od hod
      have hperm := plcC_perm secs cars i
      have eN : plcC secs cars (i + 1) = stepP (paceOf cars) (plcC secs cars i) sn := plc_succ (paceOf cars) (pl0 cars) secs hs
      have eL : ∀ n, ldrC secs cars i n = leadP (paceOf cars) (plcC secs cars i) sn n := fun n => by
        show ldr (paceOf cars) (pl0 cars) secs i n = _
        unfold ldr
        rw [hs]
      generalize hpl : plcC secs cars i = pl at *
      have hmem : ∀ n ∈ pl.ord, n ∈ names cars := fun n h => hperm.mem_iff.mp h
      have hlen10 : pl.ord.length ≤ 10 := by
        rw [hperm.length_eq]
        unfold names
        rw [List.length_map]
        exact CO.few
      have hndo : pl.ord.Nodup := hperm.nodup_iff.mpr ndn
      have pcb : ∀ n ∈ names cars, 1 ≤ paceOf cars n ∧ paceOf cars n ≤ 60 := fun n h => by
        obtain ⟨c, hc, rfl⟩ := List.mem_map.mp h
        rw [paceOf_car ndn hc]
        exact ⟨(CO.all c hc).p0, (CO.all c hc).p1⟩
      refine ⟨_, rfl, _, rfl, W.lo, _, _, .ref od, rfl, rfl, SqL.of D.lo, atI_lst (by rw [List.length_map, D.lol]) (by rw [List.getElem?_map, hod]; rfl), ?_⟩
      refine ⟨_, rfl, od, rfl, ⟨_, SqL.of ho1⟩, fun Dd hDd => ?_⟩
      refine dc_it walk_list (fun i H1 => Same H6 H1 ∧ ∃ kvs : List (Key × V), H1 Dd = some (.dK kvs) ∧ kvs.length ≤ i ∧ ∀ n ∈ pl.ord.take i, valV kvs (Sum.inr n : Key) = some (.int (freeP (paceOf cars) pl sn.2 n)))
        ⟨fun b o e => by rw [upd_ne (ne_of_none e hDd)]; exact e, [], upd_same, Nat.le_refl _, fun n hn => by simp at hn⟩ (fun i H1 _ ⟨k1, _⟩ => SqL.of (k1 _ _ ho1)) ?_ ?_
      · rintro j y H1 H2 hj ⟨k1, kvs, hD1, lk, hk⟩ ⟨e, hy⟩
        subst e
        obtain ⟨n, hn, rfl⟩ : ∃ n, pl.ord[j]? = some n ∧ y = V.str n := by
          rw [List.getElem?_map] at hy
          obtain ⟨t, z1, z2⟩ := Option.map_eq_some_iff.mp hy
          exact ⟨t, z1, z2.symm⟩
        have hnm := hmem n (List.mem_of_getElem? hn)
        have pb := pcb n hnm
        have hio : j < pl.ord.length := (List.getElem?_eq_some_iff.mp hn).1
        refine ⟨rfl, yes_of ?_⟩
        refine ⟨_, rfl, _, rfl, _, rfl, W.lt, _, _, .ref td, rfl, rfl, SqL.of (k1 _ _ D.lt), atI_lst (by rw [List.length_map, D.ltl]) (by rw [List.getElem?_map, htd]; rfl), _, rfl, td, _, rfl, gk (k1 _ _ ht1) (ht2 n hnm), _, rfl, _, rfl, pd, _, rfl, gk (k1 _ _ hpd6) (paceK_get ndn hnm), _, rfl, _, _, rfl, rfl, .inl ⟨by omega, by omega⟩, _, _, rfl, rfl, ?_⟩
        refine ⟨kvs, Sum.inr n, rfl, hD1, small1000 (by omega), fun b o e => by rw [upd_ne (ne_of_none e hDd)]; exact k1 _ _ e, _, upd_same, Nat.le_trans (length_putK _ _ _) (by omega), fun a ha => ?_⟩
        rw [tk1 hn] at ha
        rw [valV_putS]
        by_cases ean : a = n
        · rw [if_pos ean, ean]
          rfl
        · rw [if_neg ean]
          rcases List.mem_append.mp ha with ha | ha
          · exact hk a ha
          · exact absurd (List.mem_singleton.mp ha) ean
      · rintro H1 ⟨k1, kvs, hD1, lk, hk⟩
        have e9 : pl.ord.take (pl.ord.map V.str).length = pl.ord := by rw [List.length_map, List.take_length]
        rw [e9] at hk
        intro G hG
        have sG : Same H6 (upd H1 G (.dK [])) := fun b o e => by rw [upd_ne (ne_of_none (k1 _ _ e) hG)]; exact k1 _ _ e
        have nDG : Dd ≠ G := ne_of_none hD1 hG
        have hD2 : (upd H1 G (.dK [])) Dd = some (.dK kvs) := by rw [upd_ne nDG]; exact hD1
        have TG : Tabs T (upd H1 G (.dK [])) := hT6.ext sG
        refine ⟨_, rfl, rfl, _, rfl, ?_⟩
        have ek : decide (V.str (kindS sn.1) = V.str "wide") = sn.1 := by cases sn.1 <;> decide +kernel
        rw [ek]
        cases hw : sn.1 with
        | true =>
          refine iteT ?_
          refine ⟨_, rfl, _, rfl, od, Dd, pl.ord, kvs, freeP (paceOf cars) pl sn.2, rfl, SqL.of (sG _ _ ho1), hD2, hk, TG, fun H5 Dn e5 T5 n5 hDn => ?_⟩
          have D5 := (D.step (ExtN.same sG)).step e5
          have estep : plcC secs cars (i + 1) = ⟨sortBy (freeP (paceOf cars) pl sn.2) pl.ord, freeP (paceOf cars) pl sn.2⟩ := by
            rw [eN]
            unfold stepP
            rw [hw]
            rfl
          have hD5 := ExtN.dK e5 hD2
          have hG5 : H5 G = some (.dK []) := ExtN.dK e5 upd_same
          have onL : ∀ b xs, H6 b = some (.lst xs) → b ≠ Dn := fun b xs e => n5 b _ (sG _ _ e) (fun _ z => nomatch z)
          have z1 : (W.tds.map V.ref).length < sizeLine := by rw [List.length_map, D.ltl]; exact small1000 (by omega)
          have z2 : (W.ods.map V.ref).length < sizeLine := by rw [List.length_map, D.lol]; exact small1000 (by omega)
          have z3 : (W.lds.map V.ref).length < sizeLine := by rw [List.length_map, D.lll]; exact small1000 (by omega)
          have l2 : ∀ o, (upd H5 W.lt (.lst o)) W.lo = some (.lst (W.ods.map V.ref)) := fun o => by rw [upd_ne D5.nto.symm]; exact D5.lo
          have l3 : ∀ o o2, (upd (upd H5 W.lt (.lst o)) W.lo (.lst o2)) W.ll = some (.lst (W.lds.map V.ref)) := fun o o2 => by rw [upd_ne D5.nol.symm, upd_ne D5.ntl.symm]; exact D5.ll
          refine ⟨_, rfl, .inl ⟨rfl, _, SqL.of D5.lt⟩, _, rfl, W.lt, _, _, rfl, rfl, D5.lt, z1, ?_⟩
          refine ⟨_, rfl, .inl ⟨rfl, _, SqL.of (l2 _)⟩, _, rfl, W.lo, _, _, rfl, rfl, l2 _, z2, ?_⟩
          refine ⟨_, rfl, .inl ⟨rfl, _, SqL.of (l3 _ _)⟩, _, rfl, W.ll, _, _, rfl, rfl, l3 _ _, z3, ?_⟩
          refine ⟨_, _, _, _, _, W.more Dd Dn G, rfl, D5.push (td := Dd) (od := Dn) (ld := G) hD5 (fun n hn => ?_) (by rw [estep]; exact hDn) ⟨(onL _ _ D.lt).symm, (onL _ _ D.lo).symm, (onL _ _ D.ll).symm⟩ hG5 (fun n => ?_), Tabs.keepL T5 (upd3_keep D5.lt D5.lo D5.ll)⟩
          · rw [estep]
            exact hk n (hperm.mem_iff.mpr hn)
          · rw [eL n]
            unfold leadP
            rw [hw]
            rfl
        | false =>
          refine iteF ?_
          refine ⟨_, rfl, _, rfl, od, Dd, pl.ord, kvs, freeP (paceOf cars) pl sn.2, rfl, SqL.of (sG _ _ ho1), hD2, hk, hndo, by omega, fun H5 t L G2 kL kG s5 nL nG nLG ht hL hG2 tL tG => ?_⟩
          have D5 := D.step (ExtN.same (sG.trans s5))
          have estep : plcC secs cars (i + 1) = ⟨pl.ord, tickOf (foll (freeP (paceOf cars) pl sn.2) pl.ord)⟩ := by
            rw [eN]
            unfold stepP
            rw [hw]
            rfl
          have ho5 := s5 _ _ (sG _ _ ho1)
          have q := D.odn od (List.mem_of_getElem? hod)
          refine ⟨t, _, rfl, SqT.of ht, rfl, _, _, rfl, _, _, rfl, rfl, ?_⟩
          have z1 : (W.tds.map V.ref).length < sizeLine := by rw [List.length_map, D.ltl]; exact small1000 (by omega)
          have z2 : (W.ods.map V.ref).length < sizeLine := by rw [List.length_map, D.lol]; exact small1000 (by omega)
          have z3 : (W.lds.map V.ref).length < sizeLine := by rw [List.length_map, D.lll]; exact small1000 (by omega)
          have l2 : ∀ o, (upd H5 W.lt (.lst o)) W.lo = some (.lst (W.ods.map V.ref)) := fun o => by rw [upd_ne D5.nto.symm]; exact D5.lo
          have l3 : ∀ o o2, (upd (upd H5 W.lt (.lst o)) W.lo (.lst o2)) W.ll = some (.lst (W.lds.map V.ref)) := fun o o2 => by rw [upd_ne D5.nol.symm, upd_ne D5.ntl.symm]; exact D5.ll
          refine ⟨_, rfl, .inl ⟨rfl, _, SqL.of D5.lt⟩, _, rfl, W.lt, _, _, rfl, rfl, D5.lt, z1, ?_⟩
          refine ⟨_, rfl, .inl ⟨rfl, _, SqL.of (l2 _)⟩, _, rfl, W.lo, _, _, rfl, rfl, l2 _, z2, ?_⟩
          refine ⟨_, rfl, .inl ⟨rfl, _, SqL.of (l3 _ _)⟩, _, rfl, W.ll, _, _, rfl, rfl, l3 _ _, z3, ?_⟩
          have T5 : Tabs T H5 := TG.ext s5
          refine ⟨_, _, _, _, _, W.more L od G2, rfl, D5.push (td := L) (od := od) (ld := G2) hL (fun n hn => ?_) (by rw [estep]; exact ho5) q hG2 (fun n => ?_), Tabs.keepL T5 (upd3_keep D5.lt D5.lo D5.ll)⟩
          · rw [estep, tL n]
            obtain ⟨x, hx⟩ := look_some (acc := foll (freeP (paceOf cars) pl sn.2) pl.ord) (n := n) (by rw [foll_names]; exact hperm.mem_iff.mpr hn)
            show _ = some (V.int (tickOf (foll (freeP (paceOf cars) pl sn.2) pl.ord) n))
            unfold tickOf
            rw [hx]
            rfl
          · rw [tG n, lead_map, eL n]
            unfold leadP
            rw [hw]
            rfl
    · rintro σ H6 ⟨v6, v7, v8, v9, v10, W, rfl, D, hT6⟩
      rw [hus] at D
      refine ⟨_, rfl, _, rfl, _, rfl, by show 3 ≤ sizeLine; decide, fun t ht => ?_⟩
      have s7 : Same H6 (upd H6 t (.tup [.ref W.lt, .ref W.lo, .ref W.ll])) := fun b o e => by rw [upd_ne (ne_of_none e ht)]; exact e
      exact k _ t W (D.step (ExtN.same s7)) upd_same (New.ext D.ext (New.of ht)) (hT6.ext s7)
end
end Sl

set_option Elab.async false
set_option linter.all false
set_option maxRecDepth 100000
set_option maxHeartbeats 1000000
namespace Sl
open PySem PySem.Spec L2 OwnR LamX
theorem Tabs.keepP {T : List (Addr × Str)} {H H' : Hp} {p C d : Addr} {fs : List (Str × V)} (t : Tabs T H) (hp : H p = some (.ins C d fs)) (e : ∀ b o, H b = some o → b ≠ p → H' b = some o) : Tabs T H' := fun q hq => by
  obtain ⟨ps, h1, h2, h3⟩ := t q hq
  refine ⟨ps, e _ _ h1 (ne_of h1 hp (by intro z; cases z)), h2, fun pos cv hc => ?_⟩
  obtain ⟨c, e1, e2⟩ := h3 pos cv hc
  exact ⟨c, e1, e _ _ e2 (ne_of e2 hp (by intro z; unfold CodeO at z; cases z))⟩
theorem valV_names_none {g : Car → V} {cars : List Car} {n : Str} (h : n ∉ names cars) : valV (cars.map fun c => ((Sum.inr c.name : Key), g c)) (Sum.inr n : Key) = none := by
  induction cars with
  | nil => rfl
  | cons a l ih =>
    unfold names at h
    rw [List.map_cons, List.mem_cons] at h
    have hne : ¬ (Sum.inr a.name : Key) = Sum.inr n := fun z => h (.inl (Sum.inr.inj z).symm)
    rw [List.map_cons, valV_neg hne]
    exact ih fun z => h (.inr z)
theorem take_new {cars : List Car} (nd : (names cars).Nodup) {i : Nat} {c : Car} (h : cars[i]? = some c) : c.name ∉ names (cars.take i) := by
  intro hm
  obtain ⟨j, hj⟩ := List.mem_iff_getElem?.mp hm
  unfold names at hj nd
  rw [List.getElem?_map] at hj
  obtain ⟨c', hc', en⟩ := Option.map_eq_some_iff.mp hj
  have hj2 : j < i := by
    have := (List.getElem?_eq_some_iff.mp hc').1
    rw [List.length_take] at this
    omega
  rw [List.getElem?_take_of_lt hj2] at hc'
  have a1 : (cars.map (·.name))[j]? = some c.name := by rw [List.getElem?_map, hc']; exact congrArg some en
  have a2 : (cars.map (·.name))[i]? = some c.name := by rw [List.getElem?_map, h]; rfl
  have := nd_ix nd a1 a2
  omega
theorem put_car {g : Car → V} {cars : List Car} (nd : (names cars).Nodup) {i : Nat} {c : Car} (h : cars[i]? = some c) :
    putK ((cars.take i).map fun c => ((Sum.inr c.name : Key), g c)) (Sum.inr c.name : Key) (g c) = (cars.take (i + 1)).map fun c => ((Sum.inr c.name : Key), g c) := by
  rw [putK_new _ (valV_names_none (take_new nd h)), tk1 h, List.map_append]
  rfl
section
variable {P : Program} {w : World} {K : PySem.W.Frag} {mg : Str → Option Value} {base : Heap}
def spDInit (CR C : Addr) (T : List (Addr × Str)) : Sp := fun vs H Q _ => ∃ (H0 : Hp) (p dx r a : Addr) (secs : List Sec) (cars : List Car), vs = [.ref p, .ref r, .ref a] ∧ H p = some (.ins C dx []) ∧ Same H0 H ∧ H0 p = none ∧ RoadAt CR H0 r secs ∧ CarsAt H0 a cars ∧ SecsOk secs ∧ CarsOk cars ∧ Tabs T H0 ∧
  ∀ H' W, DP C H0 H' p secs cars secs.length W → Tabs T H' → Q .non H'
def nDInit : List Str := ["self", "road", "cars", "starts", "name", "start", "pace"]
theorem scDInit : FnScope nDInit ["self", "road", "cars"] (defScope sDInit) := ⟨rfl, rfl, rfl, by decide +kernel, rfl, by decide +kernel, by decide +kernel⟩
theorem ok_dInit {f fK fA fP CR C lp kp pp : Addr} {fd dK dA dP : FuncData} {T : List (Addr × Str)} (F : Fm K C "__init__" "Drive.__init__" sDInit ["self", "road", "cars"] f fd) (M : Mg mg) (R : DriveT K mg C) (RR : RoadT K w mg CR lp kp)
    (BK : Fb K mg "check_cars" sCheckCars ["cars"] fK dK) (BA : Fb K mg "drive_all" sDriveAll ["sections", "starts", "paces"] fA dA)
    (PO : PropOf K CR "sections" pp fP) (bP : Binds K dP ["self"] [])
    (GK : FnOk P w K mg base CX0 3 fK dK ["cars"] spCheckCars) (GA : FnOk P w K mg base CX0 4 fA dA ["sections", "starts", "paces"] (spDriveAll K T))
    (GP : FnOk P w K mg base CX0 1 fP dP ["self"] (getSp CR "_sections")) :
    FnOk P w K mg base CX0 5 f fd ["self", "road", "cars"] (spDInit CR C T) := by
  refine F.fn.ok scDInit (fun vs H Q E h => ?_) (fun cdv A outer s H vs Q E hr h => ?_)
  · obtain ⟨H0, p, dx, r, a, secs, cars, rfl, _⟩ := h
    rfl
  · obtain ⟨H0, p, dx, r, a, secs, cars, rfl, hp, s0, p0, hR, hC, SO, CO, hT, k⟩ := h
    have nd := scDInit.nd
    have hu := hu_of hr
    have hr2 : Room 2 (A.deeper (PyProof.Rows.envOfC "Drive.__init__" (defScope sDInit) s.heap.objs.size f cdv)) := hr.mono (by decide)
    have hr3 : Room 3 (A.deeper (PyProof.Rows.envOfC "Drive.__init__" (defScope sDInit) s.heap.objs.size f cdv)) := hr.mono (by decide)
    refine ⟨_, pss_cons (ps_expr (pe_call GK hr3 (by rfl) BK.at_ BK.fn.kp BK.bd .nil pass0 (pa_cons (pv 2) pa_nil)))
      (pss_cons (ps_fld (pv 0) (pe_prop (pv 1) RR.cl PO GP hr2 bP .nil pass0 rfl) rfl)
      (pss_cons (ps_fld (pv 0) (pe_dc (own := [("name", 4), ("start", 5), ("pace", 6)]) (g := gTup K 3 (gCons (gName 4) (gCons (gName 5) (gCons (gName 6) gNil)))) (tt := tYes) (by rfl) nd (pi_tup (pv 2)) (blkOk_by (N := nDInit) (sc := defScope sDInit) (by decide +kernel))
          (fun _ _ _ _ _ => pg_tup rfl (pgs_cons (pg_name (i := 4) nd rfl (Or.inl rfl)) (pgs_cons (pg_name (i := 5) nd rfl (Or.inl rfl)) (pgs_cons (pg_name (i := 6) nd rfl (Or.inl rfl)) pgs_nil)))) (fun _ _ _ _ _ => pts_nil) (fun _ _ _ _ _ => pv 4) (fun _ _ _ _ _ => pv 6)) rfl)
      (pss_cons (ps_setDc (i := 3) (own := [("name", 4), ("start", 5), ("pace", 6)]) (g := gTup K 3 (gCons (gName 4) (gCons (gName 5) (gCons (gName 6) gNil)))) (tt := tYes) (tk := tVar 4) (tv := tVar 5) (by rfl) nd rfl rfl (sw_trueD rfl rfl rfl (by decide +kernel)) (pi_tup (pv 2)) (blkOk_by (N := nDInit) (sc := defScope sDInit) (by decide +kernel))
          (fun _ _ _ _ _ => pg_tup rfl (pgs_cons (pg_name (i := 4) nd rfl (Or.inl rfl)) (pgs_cons (pg_name (i := 5) nd rfl (Or.inl rfl)) (pgs_cons (pg_name (i := 6) nd rfl (Or.inl rfl)) pgs_nil)))) (fun _ _ _ _ _ => pts_nil) (fun _ _ _ _ _ => pv 4) (fun _ _ _ _ _ => pv 5))
      (pss_one (ps_asg (pe_call GA hr (by rfl) BA.at_ BA.fn.kp BA.bd .nil pass0 (pa_cons (pe_prop (pv 1) RR.cl PO GP hr2 bP .nil pass0 rfl) (pa_cons (pv 3) (pa_cons (pe_fld (pv 0) rfl) pa_nil)))) (pg_tup rfl (pgs_cons (pg_fld (pv 0)) (pgs_cons (pg_fld (pv 0)) (pgs_cons (pg_fld (pv 0)) pgs_nil))))))))), ?_⟩
    have ndn : (names cars).Nodup := CO.nd
    obtain ⟨ts, ha, hlen, hcar⟩ := hC
    obtain ⟨dr, tr, ur, hr1, hsc, _⟩ := hR
    refine ⟨_, rfl, a, cars, rfl, ⟨ts, s0 _ _ ha, hlen, fun i t c e1 e2 => s0 _ _ (hcar i t c e1 e2)⟩, CO, fun H1 s1 => ?_⟩
    have s01 : Same H0 H1 := s0.trans s1
    have hp1 := s1 _ _ hp
    refine ⟨_, rfl, r, dr, _, rfl, s01 _ _ hr1, r, dr, _, _, rfl, s01 _ _ hr1, rf_sections _ _, _, rfl, p, C, dx, _, rfl, hp1, R.cl, R.nS, (by show 0 < 1000; decide), ?_⟩
    have old2 : ∀ b o, H0 b = some o → upd H1 p (.ins C dx (df1 tr)) b = some o := fun b o e => by rw [upd_ne (ne_of_none e p0)]; exact s01 _ _ e
    have hp2 : upd H1 p (.ins C dx (df1 tr)) p = some (.ins C dx (df1 tr)) := upd_same
    show tSeq _ _ _ _ (upd H1 p (.ins C dx (df1 tr)))
    generalize upd H1 p (.ins C dx (df1 tr)) = H2 at old2 hp2 ⊢
    have htz : (ts.map V.ref).length = cars.length := by rw [List.length_map, hlen]
    have e9 : cars.take (ts.map V.ref).length = cars := by rw [htz, List.take_length]
    refine ⟨_, rfl, a, rfl, ⟨_, SqT.of (old2 _ _ ha)⟩, fun D hD => ?_⟩
    refine dc_it walk_tup (fun i H3 => Same H2 H3 ∧ H3 D = some (.dK ((cars.take i).map fun c => ((Sum.inr c.name : Key), V.int c.pace))))
      ⟨fun b o e => by rw [upd_ne (ne_of_none e hD)]; exact e, upd_same⟩ (fun i H3 _ ⟨k1, _⟩ => SqT.of (k1 _ _ (old2 _ _ ha))) ?_ ?_
    · rintro i y H3 H4 hi ⟨k1, hD1⟩ ⟨e, hy⟩
      subst e
      obtain ⟨t, ht, rfl⟩ : ∃ t, ts[i]? = some t ∧ y = V.ref t := by
        rw [List.getElem?_map] at hy
        obtain ⟨t, z1, z2⟩ := Option.map_eq_some_iff.mp hy
        exact ⟨t, z1, z2.symm⟩
      have hic : i < cars.length := by rw [htz] at hi; exact hi
      have hc : cars[i]? = some cars[i] := List.getElem?_eq_getElem hic
      have hct := k1 _ _ (old2 _ _ (hcar i t _ ht hc))
      refine ⟨t, _, rfl, SqT.of hct, rfl, _, _, rfl, _, _, rfl, _, _, rfl, rfl, rfl, yes_of ?_⟩
      refine ⟨_, rfl, _, rfl, _, Sum.inr cars[i].name, rfl, hD1, by rw [List.length_map, List.length_take]; have := CO.few; exact small1000 (by omega), fun b o e => by rw [upd_ne (ne_of_none e hD)]; exact k1 _ _ e, ?_⟩
      rw [upd_same, put_car (g := fun c => V.int c.pace) ndn hc]
    · rintro H3 ⟨k1, hD1⟩
      rw [e9] at hD1
      have hp3 := k1 _ _ hp2
      refine ⟨_, rfl, p, C, dx, _, rfl, hp3, R.cl, R.nP, (by show 1 < 1000; decide), ?_⟩
      have nDp : D ≠ p := ne_of hD1 hp3 (by intro z; cases z)
      have old4 : ∀ b o, H0 b = some o → upd H3 p (.ins C dx (df2 tr D)) b = some o := fun b o e => by rw [upd_ne (ne_of_none e p0)]; exact k1 _ _ (old2 _ _ e)
      have hp4 : upd H3 p (.ins C dx (df2 tr D)) p = some (.ins C dx (df2 tr D)) := upd_same
      have hD4 : upd H3 p (.ins C dx (df2 tr D)) D = some (.dK (paceK cars)) := by rw [upd_ne nDp]; exact hD1
      show tSeq _ _ _ _ (upd H3 p (.ins C dx (df2 tr D)))
      generalize upd H3 p (.ins C dx (df2 tr D)) = H4 at old4 hp4 hD4 ⊢
      refine ⟨_, rfl, a, rfl, ⟨_, SqT.of (old4 _ _ ha)⟩, fun D2 hD2 => ?_⟩
      refine dc_it walk_tup (fun i H3 => Same H4 H3 ∧ H3 D2 = some (.dK ((cars.take i).map fun c => ((Sum.inr c.name : Key), V.int c.start))))
        ⟨fun b o e => by rw [upd_ne (ne_of_none e hD2)]; exact e, upd_same⟩ (fun i H3 _ ⟨k1, _⟩ => SqT.of (k1 _ _ (old4 _ _ ha))) ?_ ?_
      · rintro i y H3 H5 hi ⟨k1, hD1⟩ ⟨e, hy⟩
        subst e
        obtain ⟨t, ht, rfl⟩ : ∃ t, ts[i]? = some t ∧ y = V.ref t := by
          rw [List.getElem?_map] at hy
          obtain ⟨t, z1, z2⟩ := Option.map_eq_some_iff.mp hy
          exact ⟨t, z1, z2.symm⟩
        have hic : i < cars.length := by rw [htz] at hi; exact hi
        have hc : cars[i]? = some cars[i] := List.getElem?_eq_getElem hic
        have hct := k1 _ _ (old4 _ _ (hcar i t _ ht hc))
        refine ⟨t, _, rfl, SqT.of hct, rfl, _, _, rfl, _, _, rfl, _, _, rfl, rfl, rfl, yes_of ?_⟩
        refine ⟨_, rfl, _, rfl, _, Sum.inr cars[i].name, rfl, hD1, by rw [List.length_map, List.length_take]; have := CO.few; exact small1000 (by omega), fun b o e => by rw [upd_ne (ne_of_none e hD2)]; exact k1 _ _ e, ?_⟩
        rw [upd_same, put_car (g := fun c => V.int c.start) ndn hc]
      · rintro H5 ⟨k5, hD5⟩
        rw [e9] at hD5
        have hp5 := k5 _ _ hp4
        have old5 : ∀ b o, H0 b = some o → H5 b = some o := fun b o e => k5 _ _ (old4 _ _ e)
        have T5 : Tabs T H5 := hT.ext old5
        have hD45 := k5 _ _ hD4
        have hS5 : SecsAt H5 tr secs := by
          obtain ⟨us, u1, u2, u3⟩ := hsc
          exact ⟨us, old5 _ _ u1, u2, fun i t s e1 e2 => old5 _ _ (u3 i t s e1 e2)⟩
        refine ⟨_, rfl, r, dr, _, rfl, old5 _ _ hr1, r, dr, _, _, rfl, old5 _ _ hr1, rf_sections _ _, _, rfl, _, rfl, p, C, dx, _, _, rfl, hp5, R.cl, R.nP, df2_paces _ _, ?_⟩
        refine ⟨tr, D2, D, secs, cars, rfl, hS5, hD5, hD45, SO, CO, T5, fun H6 t W L ht nt T6 => ?_⟩
        have hp6 := ExtN.ins L.ext hp5
        refine ⟨t, _, rfl, SqT.of ht, rfl, ?_⟩
        have i3 : upd H6 p (.ins C dx (df3 tr D W.lt)) p = some (.ins C dx (df3 tr D W.lt)) := upd_same
        have i4 : ∀ o, upd (upd H6 p o) p (.ins C dx (df4 tr D W.lt W.lo)) p = some (.ins C dx (df4 tr D W.lt W.lo)) := fun o => upd_same
        refine ⟨_, _, rfl, ⟨_, rfl, p, C, dx, _, rfl, hp6, R.cl, R.nT, (by show (df2 tr D).length < 1000; exact Nat.lt_of_le_of_lt (putF_len _ _ _) (by show 1 + 1 < 1000; decide)), ?_⟩⟩
        refine ⟨_, _, rfl, ⟨_, rfl, p, C, dx, _, rfl, i3, R.cl, R.nO, Nat.lt_of_le_of_lt (Nat.le_trans (putF_len _ _ _) (Nat.succ_le_succ (putF_len _ _ _))) (by show 1 + 1 + 1 < 1000; decide), ?_⟩⟩
        refine ⟨_, _, rfl, ⟨_, rfl, p, C, dx, _, rfl, i4 _, R.cl, R.nL, Nat.lt_of_le_of_lt (Nat.le_trans (putF_len _ _ _) (Nat.succ_le_succ (Nat.le_trans (putF_len _ _ _) (Nat.succ_le_succ (putF_len _ _ _))))) (by show 1 + 1 + 1 + 1 < 1000; decide), rfl, ?_⟩⟩
        have hpE : upd (upd (upd H6 p (.ins C dx (df3 tr D W.lt))) p (.ins C dx (df4 tr D W.lt W.lo))) p (.ins C dx (df5 tr D W.lt W.lo W.ll)) p = some (.ins C dx (df5 tr D W.lt W.lo W.ll)) := upd_same
        have keep : ∀ b o, H6 b = some o → b ≠ p → upd (upd (upd H6 p (.ins C dx (df3 tr D W.lt))) p (.ins C dx (df4 tr D W.lt W.lo))) p (.ins C dx (df5 tr D W.lt W.lo W.ll)) b = some o := fun b o e n => by
          rw [upd_ne n, upd_ne n, upd_ne n]
          exact e
        show Ends.nx _ _ (upd (upd (upd H6 p (.ins C dx (df3 tr D W.lt))) p (.ins C dx (df4 tr D W.lt W.lo))) p (.ins C dx (df5 tr D W.lt W.lo W.ll)))
        generalize upd (upd (upd H6 p (.ins C dx (df3 tr D W.lt))) p (.ins C dx (df4 tr D W.lt W.lo))) p (.ins C dx (df5 tr D W.lt W.lo W.ll)) = H9 at hpE keep ⊢
        have T9 : Tabs T H9 := Tabs.keepP T6 hp6 keep
        have np : ∀ b o, H6 b = some o → (∀ C d fs, o ≠ .ins C d fs) → H9 b = some o := fun b o e n => keep b o e (ne_of e hp6 (n _ _ _))
        have x05 : ExtN H0 H5 := fun b o e _ => old5 _ _ e
        refine k H9 ⟨dx, tr, D, W.lt, W.lo, W.ll, W.tds, W.ods, W.lds⟩ ?_ T9
        exact { ext := fun b o e n => keep b o (L.ext b o (old5 _ _ e) n) (ne_of_none e p0)
                ins := hpE
                sec := by
                  obtain ⟨us, u1, u2, u3⟩ := hS5
                  exact ⟨us, np _ _ (ExtN.tup L.ext u1) (fun _ _ _ z => nomatch z), u2, fun i t s e1 e2 => np _ _ (ExtN.tup L.ext (u3 i t s e1 e2)) (fun _ _ _ z => nomatch z)⟩
                pac := np _ _ (ExtN.dK L.ext hD45) (fun _ _ _ z => nomatch z)
                lt := np _ _ L.lt (fun _ _ _ z => nomatch z)
                ltl := L.ltl
                lo := np _ _ L.lo (fun _ _ _ z => nomatch z)
                lol := L.lol
                ll := np _ _ L.ll (fun _ _ _ z => nomatch z)
                lll := L.lll
                tk := fun k d h => let ⟨kv, a, b⟩ := L.tk k d h; ⟨kv, np _ _ a (fun _ _ _ z => nomatch z), b⟩
                od := fun k d h => np _ _ (L.od k d h) (fun _ _ _ z => nomatch z)
                ld := fun k d h => let ⟨kv, a, b⟩ := L.ld k d h; ⟨kv, np _ _ a (fun _ _ _ z => nomatch z), b⟩
                newp := New.of p0
                newt := New.ext x05 L.newt
                newo := New.ext x05 L.newo
                newl := New.ext x05 L.newl
                nto := L.nto
                ntl := L.ntl
                nol := L.nol
                odn := L.odn }
end
end Sl

set_option Elab.async false
set_option linter.all false
set_option maxRecDepth 100000
set_option maxHeartbeats 1000000
namespace Sl
open PySem PySem.Spec L2 OwnR LamX
/-- a Drive, all of it driven -/
def DA (C : Addr) (H : Hp) (p : Addr) (secs : List Sec) (cars : List Car) : Prop := ∃ H0 W, DP C H0 H p secs cars secs.length W
theorem DA.ext {C : Addr} {H H' : Hp} {p : Addr} {secs : List Sec} {cars : List Car} (h : DA C H p secs cars) (e : ExtN H H') : DA C H' p secs cars := let ⟨H0, W, D⟩ := h; ⟨H0, W, D.step e⟩
theorem paceK_none {cars : List Car} {n : Str} (h : n ∉ names cars) : valV (paceK cars) (Sum.inr n : Key) = none := valV_names_none (g := fun c => V.int c.pace) h
theorem paceK_some (cars : List Car) (n : Str) : (valV (paceK cars) (Sum.inr n : Key)).isSome = decide (n ∈ names cars) := by
  by_cases h : n ∈ names cars
  · rw [decide_eq_true h]
    induction cars with
    | nil => cases h
    | cons a l ih =>
      by_cases e : a.name = n
      · have : valV (paceK (a :: l)) (Sum.inr n : Key) = some (V.int a.pace) := by rw [← e]; exact valV_pos rfl
        rw [this]
        rfl
      · have hne : ¬ (Sum.inr a.name : Key) = Sum.inr n := fun z => e (Sum.inr.inj z)
        have hm : n ∈ names l := by
          unfold names at h ⊢
          rw [List.map_cons, List.mem_cons] at h
          rcases h with h | h
          · exact absurd h.symm e
          · exact h
        have : valV (paceK (a :: l)) (Sum.inr n : Key) = valV (paceK l) (Sum.inr n : Key) := valV_neg hne
        rw [this]
        exact ih hm
  · rw [decide_eq_false h, paceK_none h]
    rfl
section
variable {P : Program} {w : World} {K : PySem.W.Frag} {mg : Str → Option Value} {base : Heap}
/-! ### name in drive -/
def spHas (C : Addr) : Sp := fun vs H Q _ => ∃ (p : Addr) (secs : List Sec) (cars : List Car) (n : Str), vs = [.ref p, .str n] ∧ DA C H p secs cars ∧ Q (.bl (decide (n ∈ names cars))) H
theorem scHas : FnScope ["self", "x"] ["self", "x"] (defScope sDHas) := ⟨rfl, rfl, rfl, by decide +kernel, rfl, by decide +kernel, by decide +kernel⟩
theorem ok_has {f C : Addr} {fd : FuncData} (F : Fun K "__contains__" "Drive.__contains__" sDHas f fd) (M : Mg mg) (R : DriveT K mg C) : FnOk P w K mg base CX0 1 f fd ["self", "x"] (spHas C) := by
  refine F.ok scHas (fun vs H Q E h => ?_) (fun cdv A outer s H vs Q E hr h => ?_)
  · obtain ⟨p, secs, cars, n, rfl, _⟩ := h
    rfl
  · obtain ⟨p, secs, cars, n, rfl, ⟨H0, W, D⟩, k⟩ := h
    have hu := hu_of hr
    refine ⟨_, pss_one (ps_ret (pe_and (pe_callB call_isi (by rfl) M.isinstance boot_isinstance (pa_cons (pv 1) (pa_cons (pe_bltn (v := .ty "str") (by rfl) M.str boot_tStr rfl) pa_nil))) (pe_one (pe_cmp (pc_din hu (pv 1) (pe_fld (pv 0) rfl)) (by rfl))))), ?_⟩
    refine ⟨_, rfl, _, _, _, _, true, rfl, .ty _, .base (.str n), kit_ty (by decide +kernel), true, rfl, iteT ?_⟩
    refine ⟨_, rfl, _, rfl, p, C, W.dx, _, _, rfl, D.ins, R.cl, R.nP, df5_paces _ _ _ _ _, W.pd, _, rfl, DGet.k (k := (Sum.inr n : Key)) D.pac, ?_⟩
    rw [paceK_some]
    exact k
/-! ### _check_car -/
def spCheckCar (C : Addr) : Sp := fun vs H Q _ => ∃ (p : Addr) (secs : List Sec) (cars : List Car) (n : Str), vs = [.ref p, .str n] ∧ DA C H p secs cars ∧ n ∈ names cars ∧ Q .non H
theorem scCheckCar : FnScope ["self", "name"] ["self", "name"] (defScope sDCheckCar) := ⟨rfl, rfl, rfl, by decide +kernel, rfl, by decide +kernel, by decide +kernel⟩
theorem ok_checkCar {f fH C : Addr} {fd dH : FuncData} (F : Fm K C "_check_car" "Drive._check_car" sDCheckCar ["self", "name"] f fd) (hs : PySem.W.findIn K (.ref C) "__contains__" = some (some (.ref fH))) (hf : PySem.W.isFn K (.ref fH) = true) (bH : Binds K dH ["self", "x"] [])
    (GH : FnOk P w K mg base CX0 1 fH dH ["self", "x"] (spHas C)) : FnOk P w K mg base CX0 2 f fd ["self", "name"] (spCheckCar C) := by
  refine F.fn.ok scCheckCar (fun vs H Q E h => ?_) (fun cdv A outer s H vs Q E hr h => ?_)
  · obtain ⟨p, secs, cars, n, rfl, _⟩ := h
    rfl
  · obtain ⟨p, secs, cars, n, rfl, ⟨H0, W, D⟩, hn, k⟩ := h
    refine ⟨_, pss_one (ps_if (pt_cmpR (op_notInO hs hf (GH.raw bH .nil) hr pass0) (pv 1) (pv 0) (by rfl)) (pss_one ps_never) pss_nil), ?_⟩
    refine ⟨_, rfl, _, rfl, p, W.dx, _, rfl, D.ins, p, secs, cars, n, rfl, ⟨H0, W, D⟩, _, rfl, false, ?_, iteF k⟩
    rw [decide_eq_true hn]
    rfl
/-! ### _check_place, _check_section -/
def spCheckPlace (C : Addr) : Sp := fun vs H Q _ => ∃ (p : Addr) (secs : List Sec) (cars : List Car) (k : Nat), vs = [.ref p, .int (k : Nat)] ∧ DA C H p secs cars ∧ k ≤ secs.length ∧ Q .non H
theorem scCheckPlace : FnScope ["self", "place"] ["self", "place"] (defScope sDCheckPlace) := ⟨rfl, rfl, rfl, by decide +kernel, rfl, by decide +kernel, by decide +kernel⟩
theorem ok_checkPlace {f fB C : Addr} {fd dB : FuncData} (F : Fm K C "_check_place" "Drive._check_place" sDCheckPlace ["self", "place"] f fd) (M : Mg mg) (R : DriveT K mg C) (BB : Fb K mg "is_number" sIsNumber ["value", "least", "most"] fB dB)
    (GB : FnOk P w K mg base CX0 1 fB dB ["value", "least", "most"] spIsNumber) : FnOk P w K mg base CX0 2 f fd ["self", "place"] (spCheckPlace C) := by
  refine F.fn.ok scCheckPlace (fun vs H Q E h => ?_) (fun cdv A outer s H vs Q E hr h => ?_)
  · obtain ⟨p, secs, cars, n, rfl, _⟩ := h
    rfl
  · obtain ⟨p, secs, cars, n, rfl, ⟨H0, W, D⟩, hn, k⟩ := h
    obtain ⟨us, u1, u2, u3⟩ := D.sec
    refine ⟨_, pss_one (ps_if (pt_not (pt_val (pe_call GB hr (by rfl) BB.at_ BB.fn.kp BB.bd .nil pass0 (pa_cons (pv 1) (pa_cons pe_int (pa_cons (pe_callB call_len_seq (by rfl) M.len boot_len (pa_cons (pe_fld (pv 0) rfl) pa_nil)) pa_nil)))))) (pss_one ps_never) pss_nil), ?_⟩
    refine ⟨_, rfl, _, rfl, p, C, W.dx, _, _, rfl, D.ins, R.cl, R.nS, df5_sections _ _ _ _ _, W.sc, _, rfl, .inr (SqT.of u1), (n : Nat), 0, _, rfl, true, ?_, iteF k⟩
    rw [List.length_map, u2, decide_eq_true (by omega : (0 : Int) ≤ (n : Nat)), decide_eq_true (by omega : ((n : Nat) : Int) ≤ (secs.length : Nat))]
    rfl
/-! ### drive[name] -/
def tksL (secs : List Sec) (cars : List Car) (n : Str) : List Int := (List.range (secs.length + 1)).map fun k => (plcC secs cars k).tk n
def spGet (C : Addr) : Sp := fun vs H Q _ => ∃ (p : Addr) (secs : List Sec) (cars : List Car) (n : Str), vs = [.ref p, .str n] ∧ DA C H p secs cars ∧ n ∈ names cars ∧ secs.length ≤ 12 ∧ ∀ H' t, Same H H' → H' t = some (.tup ((tksL secs cars n).map V.int)) → Q (.ref t) H'
def nDGet : List Str := ["self", "at", "ticks"]
theorem scGet : FnScope nDGet ["self", "at"] (defScope sDGet) := ⟨rfl, rfl, rfl, by decide +kernel, rfl, by decide +kernel, by decide +kernel⟩
theorem ok_get {f fC C : Addr} {fd dC : FuncData} (F : Fun K "__getitem__" "Drive.__getitem__" sDGet f fd) (M : Mg mg) (R : DriveT K mg C) (BC : Fm K C "_check_car" "Drive._check_car" sDCheckCar ["self", "name"] fC dC)
    (GC : FnOk P w K mg base CX0 2 fC dC ["self", "name"] (spCheckCar C)) : FnOk P w K mg base CX0 3 f fd ["self", "at"] (spGet C) := by
  refine F.ok scGet (fun vs H Q E h => ?_) (fun cdv A outer s H vs Q E hr h => ?_)
  · obtain ⟨p, secs, cars, n, rfl, _⟩ := h
    rfl
  · obtain ⟨p, secs, cars, n, rfl, ⟨H0, W, D⟩, hn, h12, k⟩ := h
    have nd := scGet.nd
    have hu := hu_of hr
    have noF : ∀ {m : Str}, (¬ m = "_sections") → (¬ m = "_paces") → (¬ m = "_ticks") → (¬ m = "_orders") → (¬ m = "_leaders") → (df5 W.sc W.pd W.lt W.lo W.ll).lookup m = none := fun a b c d e => df5_no _ _ _ _ _ a b c d e
    refine ⟨_, pss_cons (ps_expr (pe_meth (pv 0) R.cl BC.at_ GC hr BC.bd .nil pass0 (pa_cons (pv 1) pa_nil)))
      (pss_one (ps_ret (pe_callTy call_tuple_of (by rfl) M.tuple boot_tTuple (pa_cons (pe_lc (own := [("ticks", 2)]) (g := gName 2) (tt := tYes) (te := tDGet (tVar 2) (tVar 1)) (by rfl) nd (pi_list (pe_fld (pv 0) rfl)) (blkOk_by (N := nDGet) (sc := defScope sDGet) (by decide +kernel))
        (fun _ _ _ _ _ => pg_name (i := 2) nd rfl (Or.inl rfl)) (fun _ _ _ _ _ => pts_nil) (fun _ _ _ _ _ => pe_dget hu (pv 2) (pv 1) (fun _ _ => rfl))) pa_nil)))), ?_⟩
    refine ⟨_, rfl, p, W.dx, _, rfl, D.ins, noF (by decide +kernel) (by decide +kernel) (by decide +kernel) (by decide +kernel) (by decide +kernel), _, rfl, p, secs, cars, n, rfl, ⟨H0, W, D⟩, hn, ?_⟩
    refine ⟨_, rfl, p, C, W.dx, _, _, rfl, D.ins, R.cl, R.nT, df5_ticks _ _ _ _ _, W.lt, rfl, ⟨_, SqL.of D.lt⟩, fun L hL => ?_⟩
    have hltz : (W.tds.map V.ref).length = secs.length + 1 := by rw [List.length_map, D.ltl]
    refine lc_it walk_list (fun i H1 => Same H H1 ∧ H1 L = some (.lst (((List.range i).map fun k => (plcC secs cars k).tk n).map V.int)))
      ⟨fun b o e => by rw [upd_ne (ne_of_none e hL)]; exact e, upd_same⟩ (fun i H1 _ ⟨k1, _⟩ => SqL.of (k1 _ _ D.lt)) ?_ ?_
    · rintro i y H1 H2 hi ⟨k1, hL1⟩ ⟨e, hy⟩
      subst e
      obtain ⟨t, ht, rfl⟩ : ∃ t, W.tds[i]? = some t ∧ y = V.ref t := by
        rw [List.getElem?_map] at hy
        obtain ⟨t, z1, z2⟩ := Option.map_eq_some_iff.mp hy
        exact ⟨t, z1, z2.symm⟩
      obtain ⟨kv, a1, a2⟩ := D.tk i t ht
      refine ⟨rfl, yes_of ?_⟩
      refine ⟨_, rfl, _, rfl, t, _, rfl, gk (k1 _ _ a1) (a2 n hn), _, hL1, ?_, fun b o e => by rw [upd_ne (ne_of_none e hL)]; exact k1 _ _ e, ?_⟩
      · rw [List.length_map, List.length_map, List.length_range]
        exact small1000 (by omega)
      · rw [upd_same, List.range_succ, List.map_append, List.map_append]
        rfl
    · rintro H1 ⟨k1, hL1⟩
      rw [hltz] at hL1
      refine ⟨L, _, rfl, .inl ⟨SqL.of hL1, fun t ht => ?_⟩⟩
      exact k _ t (fun b o e => by rw [upd_ne (ne_of_none (k1 _ _ e) ht)]; exact k1 _ _ e) upd_same
end
end Sl

set_option Elab.async false
set_option linter.all false
set_option maxRecDepth 100000
set_option maxHeartbeats 1000000
namespace Sl
open PySem PySem.Spec L2 OwnR LamX
section
variable {P : Program} {w : World} {K : PySem.W.Frag} {mg : Str → Option Value} {base : Heap}
/-! ### len(drive) -/
def spLenD (C : Addr) : Sp := fun vs H Q _ => ∃ (p : Addr) (secs : List Sec) (cars : List Car), vs = [.ref p] ∧ DA C H p secs cars ∧ Q (.int (cars.length : Nat)) H
theorem scLenD : FnScope ["self"] ["self"] (defScope sDLen) := ⟨rfl, rfl, rfl, by decide +kernel, rfl, by decide +kernel, by decide +kernel⟩
theorem ok_lenD {f C : Addr} {fd : FuncData} (F : Fun K "__len__" "Drive.__len__" sDLen f fd) (M : Mg mg) (R : DriveT K mg C) : FnOk P w K mg base CX0 1 f fd ["self"] (spLenD C) := by
  refine F.ok scLenD (fun vs H Q E h => ?_) (fun cdv A outer s H vs Q E hr h => ?_)
  · obtain ⟨p, secs, cars, rfl, _⟩ := h
    rfl
  · obtain ⟨p, secs, cars, rfl, ⟨H0, W, D⟩, k⟩ := h
    refine ⟨_, pss_one (ps_ret (pe_callB call_lenD (by rfl) M.len boot_len (pa_cons (pe_fld (pv 0) rfl) pa_nil))), ?_⟩
    refine ⟨_, rfl, p, C, W.dx, _, _, rfl, D.ins, R.cl, R.nP, df5_paces _ _ _ _ _, W.pd, _, rfl, D.pac, ?_⟩
    have e : (paceK cars).length = cars.length := by unfold paceK; rw [List.length_map]
    rw [e]
    exact k
/-! ### order_at -/
theorem DP.tdk {C : Addr} {H0 H : Hp} {p : Addr} {secs : List Sec} {cars : List Car} {m : Nat} {W : DW} (D : DP C H0 H p secs cars m W) {k : Nat} (h : k ≤ m) : ∃ d, W.tds[k]? = some d := ⟨_, List.getElem?_eq_getElem (by rw [D.ltl]; omega)⟩
theorem DP.odk {C : Addr} {H0 H : Hp} {p : Addr} {secs : List Sec} {cars : List Car} {m : Nat} {W : DW} (D : DP C H0 H p secs cars m W) {k : Nat} (h : k ≤ m) : ∃ d, W.ods[k]? = some d := ⟨_, List.getElem?_eq_getElem (by rw [D.lol]; omega)⟩
theorem DP.ldk {C : Addr} {H0 H : Hp} {p : Addr} {secs : List Sec} {cars : List Car} {m : Nat} {W : DW} (D : DP C H0 H p secs cars m W) {k : Nat} (h : k < m) : ∃ d, W.lds[k]? = some d := ⟨_, List.getElem?_eq_getElem (by rw [D.lll]; omega)⟩
theorem map_at {α β : Type} {xs : List α} {k : Nat} {v : α} (f : α → β) (h : xs[k]? = some v) : (xs.map f)[k]? = some (f v) := by rw [List.getElem?_map, h]; rfl
def strO (o : Option Str) : V := (o.map V.str).getD .non
/-! ### drive(name), drive(name, place) -/
def spCallD (C : Addr) : Sp := fun vs H Q _ => ∃ (p : Addr) (secs : List Sec) (cars : List Car) (n : Str) (i : Nat) (pl : V), vs = [.ref p, .str n, pl] ∧ DA C H p secs cars ∧ n ∈ names cars ∧ i ≤ secs.length ∧ ((pl = .non ∧ i = secs.length) ∨ pl = .int (i : Nat)) ∧ Q (.int ((plcC secs cars i).tk n)) H
theorem scCallD : FnScope ["self", "name", "place"] ["self", "name", "place"] (defScope sDCall) := ⟨rfl, rfl, rfl, by decide +kernel, rfl, by decide +kernel, by decide +kernel⟩
theorem ok_callD {f fB fC C : Addr} {fd dB dC : FuncData} (F : FunD K "__call__" "Drive.__call__" (defArgs sDCall) (defBody sDCall) (defScope sDCall) [.non] [] f fd) (M : Mg mg) (R : DriveT K mg C)
    (BC : Fm K C "_check_car" "Drive._check_car" sDCheckCar ["self", "name"] fC dC) (GC : FnOk P w K mg base CX0 2 fC dC ["self", "name"] (spCheckCar C))
    (BB : Fm K C "_check_place" "Drive._check_place" sDCheckPlace ["self", "place"] fB dB) (GB : FnOk P w K mg base CX0 2 fB dB ["self", "place"] (spCheckPlace C)) : FnOk P w K mg base CX0 3 f fd ["self", "name", "place"] (spCallD C) := by
  refine F.ok (CX := CX0) scCallD (fun vs H Q E h => ?_) (fun cdv A outer s H vs Q E hr h => ?_)
  · obtain ⟨p, secs, cars, n, i, pl, rfl, _⟩ := h
    rfl
  · suffices hq : ∃ t, PSs (cxOf CX0 P w K mg base ["self", "name", "place"] "Drive.__call__" (defScope sDCall) f cdv A outer s H E).nox (defBody sDCall) t ∧ t { nx := fun _ H' => Q .non H', rt := Q } (start ["self", "name", "place"] vs) H by
      obtain ⟨t, h1, h2⟩ := hq
      exact ⟨t, h1.nox, h2⟩
    obtain ⟨p, secs, cars, n, i, pl, rfl, ⟨H0, W, D⟩, hn, hi, hpl, k⟩ := h
    have hu := hu_of hr
    have nd := scCallD.nd
    refine ⟨_, pss_cons (ps_expr (pe_meth (pv 0) R.cl BC.at_ GC hr BC.bd .nil pass0 (pa_cons (pv 1) pa_nil)))
      (pss_cons (ps_if (pt_cmp (pc_isN (pv 2)) (by rfl)) (pss_one (ps_set (i := 2) nd rfl (.inl rfl) (pe_callB call_len_seq (by rfl) M.len boot_len (pa_cons (pe_fld (pv 0) rfl) pa_nil)))) pss_nil)
      (pss_cons (ps_expr (pe_meth (pv 0) R.cl BB.at_ GB hr BB.bd .nil pass0 (pa_cons (pv 2) pa_nil)))
      (pss_one (ps_ret (pe_dget hu (pe_ix ix_list (pe_fld (pv 0) rfl) (pv 2) (fun _ _ => rfl)) (pv 1) (fun _ _ => rfl)))))), ?_⟩
    obtain ⟨td, htd⟩ := D.tdk hi
    obtain ⟨kv, a1, a2⟩ := D.tk i td htd
    obtain ⟨us, u1, u2, u3⟩ := D.sec
    have nf : ∀ {m : Str}, (¬ m = "_sections") → (¬ m = "_paces") → (¬ m = "_ticks") → (¬ m = "_orders") → (¬ m = "_leaders") → (df5 W.sc W.pd W.lt W.lo W.ll).lookup m = none := fun a b c d e => df5_no _ _ _ _ _ a b c d e
    refine ⟨_, rfl, p, W.dx, _, rfl, D.ins, nf (by decide +kernel) (by decide +kernel) (by decide +kernel) (by decide +kernel) (by decide +kernel), _, rfl, p, secs, cars, n, rfl, ⟨H0, W, D⟩, hn, ?_⟩
    rcases hpl with ⟨rfl, rfl⟩ | rfl
    · refine ⟨_, rfl, _, rfl, ?_⟩
      rw [show decide (V.non = V.non) = true by simp]
      refine iteT ?_
      refine ⟨_, rfl, p, C, W.dx, _, _, rfl, D.ins, R.cl, R.nS, df5_sections _ _ _ _ _, W.sc, _, rfl, .inr (SqT.of u1), ?_⟩
      rw [List.length_map, u2]
      refine ⟨_, rfl, p, W.dx, _, rfl, D.ins, nf (by decide +kernel) (by decide +kernel) (by decide +kernel) (by decide +kernel) (by decide +kernel), _, rfl, p, secs, cars, secs.length, rfl, ⟨H0, W, D⟩, hi, ?_⟩
      refine ⟨_, rfl, p, C, W.dx, _, _, rfl, D.ins, R.cl, R.nT, df5_ticks _ _ _ _ _, _, rfl, W.lt, _, _, .ref td, rfl, rfl, SqL.of D.lt, atI_nat (map_at V.ref htd), ?_⟩
      exact ⟨_, rfl, td, _, rfl, gk a1 (a2 n hn), k⟩
    · refine ⟨_, rfl, _, rfl, ?_⟩
      rw [show decide (V.int ((i : Nat) : Int) = V.non) = false by simp]
      refine iteF ?_
      refine ⟨_, rfl, p, W.dx, _, rfl, D.ins, nf (by decide +kernel) (by decide +kernel) (by decide +kernel) (by decide +kernel) (by decide +kernel), _, rfl, p, secs, cars, i, rfl, ⟨H0, W, D⟩, hi, ?_⟩
      refine ⟨_, rfl, p, C, W.dx, _, _, rfl, D.ins, R.cl, R.nT, df5_ticks _ _ _ _ _, _, rfl, W.lt, _, _, .ref td, rfl, rfl, SqL.of D.lt, atI_nat (map_at V.ref htd), ?_⟩
      exact ⟨_, rfl, td, _, rfl, gk a1 (a2 n hn), k⟩
end
end Sl


set_option Elab.async false
set_option linter.all false
set_option maxRecDepth 100000
set_option maxHeartbeats 1000000
/-! for and if within a generator's body. -/
namespace OwnR
open PySem PySem.Spec PyProof.Rows L2 GenW
section
variable {X : Cx}
def tGIf (c : TT) (a b : TGn) : TGn := fun D ys σ H => c σ H fun d H1 => if d = true then a D ys σ H1 else b D ys σ H1
theorem gs_if {test : Expr} {a b : List Stmt} {pos : Pos} {tc : TT} {ta tb : TGn} (hc : PT X test tc) (ha : GSs X a ta) (hb : GSs X b tb) : GS X (.If test a b pos) (tGIf tc ta tb) := by
  refine ⟨fun A S ip R n ys s₀ c fs K J gd lv s σ H D g hn k hI ht => ?_⟩
  obtain ⟨acc, cc, r, I⟩ := hI
  rw [exec_If]
  refine seg_bind_wrap (wpAny_standAt ?_)
  refine seg_bind_wrap ?_
  rw [g.over]
  refine wpAny_mono (hc.run _ s σ H _ I ht) (fun d s' hd => ?_) fun x s' hx => k.exc n s₀ x s' hx
  obtain ⟨H2, I2, q2⟩ := hd
  cases d with
  | true => exact ha.run A S ip R n ys s₀ c fs K J gd lv s' σ H2 D g hn k ⟨acc, cc, r, I2⟩ q2
  | false => exact hb.run A S ip R n ys s₀ c fs K J gd lv s' σ H2 D g hn k ⟨acc, cc, r, I2⟩ q2
end
section
variable {prog : Program} {w : World} {A : Around} {R : GenEnd} {Y : Protocol} {n : Nat} {s₀ : Shared} {fs : List Frame} {s : Shared} {env : Env}
abbrev noteE (env : Env) (e : Value) : Sem PySem.Fin := (do noteFrame e env; theTreesLotGoes e : Sem Unit).wrap (fun _ => .raise e) .raise id id
theorem seg_forTurn {tg : Expr} {it : Value} {body : List Stmt}
    (h : wpAny (model prog w) (A.over (.forLoop tg it body [] env) fs) (pyNext it) (fun r s1 => match r with
        | none => Seg (model prog w) A R Y n s₀ (.forLoop tg it body [] env) (.pure (.again (.block [] env))) fs s1
        | some v => wpAny (model prog w) (A.over (.forLoop tg it body [] env) fs) (letOwnedTupleGo tg it v) (fun _ s2 => wpAny (model prog w) (A.over (.forLoop tg it body [] env) fs) (assign tg env v) (fun _ s3 =>
            Seg (model prog w) A R Y n s₀ (.forLoop tg it body [] env) ((execs body env).wrap (fun f => match f with
              | .next | .cont => .pure (.again (.forLoop tg it body [] env))
              | .brk => .pure (.done .next)
              | .ret v => .pure (.done (.ret v))) (noteE env) id id) fs s3)
            (fun x s' => Seg (model prog w) A R Y n s₀ (.forLoop tg it body [] env) (noteE env x) fs s') s2)
          (fun x s' => Seg (model prog w) A R Y n s₀ (.forLoop tg it body [] env) (noteE env x) fs s') s1)
      (fun x s' => Seg (model prog w) A R Y n s₀ (.forLoop tg it body [] env) (noteE env x) fs s') s) :
    Seg (model prog w) A R Y n s₀ (.forLoop tg it body [] env) ((model prog w).den (.forLoop tg it body [] env)) fs s := by
  have ee : ∀ x s', Seg (model prog w) A R Y n s₀ (.forLoop tg it body [] env) (noteE env x) fs s' → Seg (model prog w) A R Y n s₀ (.forLoop tg it body [] env) ((do noteFrame x env; theTreesLotGoes x : Sem Unit).bind fun _ => (.raise x : Sem PySem.Fin)) fs s' := fun x s' hx => by
    rw [Sem.bind_eq_wrap]
    exact hx
  show Seg _ A R Y n s₀ _ ((forTurn tg it body [] env).onRaise (fun x => do noteFrame x env; theTreesLotGoes x)) fs s
  unfold forTurn
  rw [Sem.onRaise_eq_wrap]
  refine seg_bind_wrap (wpAny_standAt ?_)
  refine seg_bind_wrap (wpAny_onRaise (wpAny_mono h (fun r s1 h1 => ?_) fun x s' hx => wpAny_standAt (ee x s' hx)))
  cases r with
  | none => exact h1
  | some v =>
    refine seg_bind_wrap (wpAny_mono h1 (fun _ s2 h2 => ?_) fun x s' hx => ee x s' hx)
    refine seg_bind_wrap (wpAny_mono h2 (fun _ s3 h3 => ?_) fun x s' hx => ee x s' hx)
    rw [Sem.bind_eq_wrap', Sem.wrap_wrap]
    rw [Sem.wrap_congr (execs body env) _ _ (K' := fun f => match f with
            | .next | .cont => .pure (.again (.forLoop tg it body [] env))
            | .brk => .pure (.done .next)
            | .ret v => .pure (.done (.ret v))) (H' := noteE env)
        (fun f => by cases f <;> rfl)
        (fun e => by first | exact Sem.bind_eq_wrap _ _ | (show (do noteFrame e env; theTreesLotGoes e : Sem Unit).bind (fun _ => .raise e) = _; rw [Sem.bind_eq_wrap]))]
    exact h3
end
section
variable {X : Cx}
def tGFor (wi : TI) (g : TG) (tb : TGn) : TGn := fun D ys σ H => wi σ H fun J H1 => ∃ W : Nat → Nat → List V → L2.St → Hp → Prop, (∃ m, W 0 m ys σ H1) ∧ ∀ i m ys σ H, W i m ys σ H →
  (J.stop i H ∧ D.nx ys σ H) ∨ (J.go i H ∧ ∃ N : List V → L2.St → Hp → Prop, (∀ ys' σ' H', N ys' σ' H' → ∃ m', m' < m ∧ W (i + 1) m' ys' σ' H') ∧ ∀ x H', J.yld i H x H' → g x σ H' fun σ2 H2 => tb { D with nx := N, ct := N, bk := D.nx } ys σ2 H2)
theorem gi_fewer {S : Addr} {ip pl : List (Addr × Obj)} {ys : List V} {σ : L2.St} {H : Hp} {s : Shared} (h : GI X S (ip ++ pl) ys σ H s) : GI X S ip ys σ H s := by
  obtain ⟨acc, c, r, I⟩ := h
  exact ⟨acc, c, r, Inv.unpinned (pins := (S, lstObj acc c) :: ip) (pl := pl) I⟩
theorem gs_for {tg iter : Expr} {body : List Stmt} {wi : TI} {g : TG} {tb : TGn} {pos : Pos} (hp : PassesOwn (model X.prog X.w) X.A X.env X.xe) (hc : X.calm = true) (hi : PI X tg iter wi) (hg : PG X tg g) (hb : GSs X body tb)
    (hs : ∀ x, foldedSetIterable iter X.env x = pure x := by intro _; rfl) : GS X (.For tg iter body [] pos) (tGFor wi g tb) := by
  refine ⟨fun A S ip R n ys s₀ c fs K J gd lv s σ H D gc hn k hI ht => ?_⟩
  obtain ⟨acc, cc, r, I⟩ := hI
  rw [exec_For]
  refine seg_bind_wrap (wpAny_standAt ?_)
  refine seg_bind_wrap ?_
  rw [gc.over]
  refine wpAny_mono (hi.run _ s σ H _ I ht) (fun v s1 h1 => ?_) fun x s' hx => k.exc n s₀ x s' hx
  refine seg_bind_wrap (wpAny_of_eq (hs v) ?_)
  refine seg_bind_wrap (wpAny_standAt ?_)
  refine seg_bind_wrap (wpAny_holding ?_)
  rw [gc.over]
  refine wpAny_mono h1 (fun itv s2 h2 => ?_) fun x s' hx => k.exc n s₀ x s' hx
  obtain ⟨it, fp, tn, J', H2, e, I2, T, st2, f2, W, ⟨m0, w0⟩, turn⟩ := h2
  subst e
  refine seg_call fun p => ?_
  have gl := fun (kk : Result → Sem PySem.Fin) => gc_loop (k := kk) (c' := .forLoop tg (.ref it) body [] X.env) (l := lv []) (kp := []) (p := p) gc rfl rfl
  have glb := fun (kk : Result → Sem PySem.Fin) => gc_loop (k := kk) (c' := .block [] X.env) (l := lv []) (kp := []) (p := p) gc rfl rfl
  have nS : ∀ b ∈ fp, b ≠ S := fun b hb => ((f2 b hb).2.2.2.2.2 (S, lstObj acc cc) (List.mem_append_right _ List.mem_cons_self)).symm
  have stat : ∀ {H' : Hp} {a2 : Array Value} {c2 : Nat}, (∀ b ∈ fp, H' b = none) → ∀ b ∈ fp, FpOk X ((S, lstObj a2 c2) :: ip) H' b := fun hn b hb => by
    obtain ⟨_, q1, q2, q3, q4, q5⟩ := f2 b hb
    refine ⟨hn b hb, q1, q2, q3, q4, fun p hp => ?_⟩
    rcases List.mem_append.mp hp with z | z
    · exact q5 p (List.mem_append_left _ z)
    · rcases List.mem_cons.mp z with z | z
      · rw [z]
        exact (nS b hb).symm
      · exact q5 p (List.mem_append_right _ (List.mem_cons_of_mem _ z))
  have loop : ∀ (m i n : Nat) (ys : List V) (s₀ s : Shared) (σ : L2.St) (H : Hp), n + ys.length = sizeLine → W i m ys σ H → GI X S ip ys σ H s → tn i s.heap → (∀ b ∈ fp, H b = none) →
      Seg (model X.prog X.w) A R (GY X S) n s₀ (.forLoop tg (.ref it) body [] X.env) ((model X.prog X.w).den (.forLoop tg (.ref it) body [] X.env))
        (.ret (fun r => ((match r with | .ok f => (.pure f : Sem Flow) | .error e => .raise e).onRaise (cameBack X.env)).wrap K J gd lv) none (gd false) (lv []) c p [] :: fs) s := by
    intro m
    induction m using Nat.strongRecOn with
    | ind m ih =>
      intro i n ys s₀ s σ H hn w hI st fr
      have ee : ∀ (n : Nat) (s₀ : Shared) (x : Value) (s' : Shared), X.xe x s' → Seg (model X.prog X.w) A R (GY X S) n s₀ (.forLoop tg (.ref it) body [] X.env) (noteE X.env x)
          (.ret (fun r => ((match r with | .ok f => (.pure f : Sem Flow) | .error e => .raise e).onRaise (cameBack X.env)).wrap K J gd lv) none (gd false) (lv []) c p [] :: fs) s' := fun n s₀ x s' hx => by
        refine seg_wrap ?_
        rw [(gl _).over]
        refine wpAny_bind (wpAny_mono (hp x s' hx) (fun _ s'' hcb => wpAny_theTreesLotGoes ?_) fun y s'' hcb => ?_)
        · exact seg_leaf (.error x) (seg_cameBack gc k hcb)
        · exact seg_leaf (.error y) (seg_cameBack gc k hcb)
      refine seg_forTurn ?_
      rw [(gl _).over]
      obtain ⟨acc, cc, r, I⟩ := hI
      rcases turn i m ys σ H w with ⟨stop, qn⟩ | ⟨go, N, hN, step⟩
      · refine wpAny_mono (T.done X rfl rfl rfl hc i _ s σ H X.xe I (stat fr) st stop) (fun r s4 ⟨hr, I4⟩ => ?_) fun x s' hx => ee n s₀ x s' hx
        subst hr
        refine seg_again rfl ?_
        exact seg_leaf (.ok .next) (k.ok n ys s₀ s4 .next hn ⟨σ, H, ⟨acc, cc, r, I4⟩, qn⟩)
      · refine wpAny_mono (T.item X rfl rfl rfl hc i _ s σ H X.xe I (stat fr) st go) (fun r0 s4 ⟨u, hr, h4⟩ => ?_) fun x s' hx => ee n s₀ x s' hx
        subst hr
        refine wpAny_mono h4 (fun _ s5 ⟨x, H5, I5, r5, y5, st5, fr5⟩ => ?_) fun x s' hx => ee n s₀ x s' hx
        have I5' := I5.pinned (stat fr5) (T.obj _ _ st5)
        refine wpAny_mono (hg.run _ s5 σ H5 x u _ I5' r5 (step x H5 y5)) (fun _ s6 ⟨σ6, H6, I6, q6⟩ => ?_) fun x s' hx => ee n s₀ x s' hx
        have gl2 : GC X S (ip ++ pinsAt fp s5.heap) A (.forLoop tg (.ref it) body [] X.env) (.ret (fun r => ((match r with | .ok f => (.pure f : Sem Flow) | .error e => .raise e).onRaise (cameBack X.env)).wrap K J gd lv) none (gd false) (lv []) c p [] :: fs) id :=
          { gl _ with ip := fun q hq => (List.mem_append.mp hq).elim (fun z => gc.ip q z) fun z => nS _ (of_pinsAt z).1 }
        have again : ∀ {n' : Nat} {ys' : List V} {s₀' s7 : Shared} {σ7 : L2.St} {H7 : Hp}, n' + ys'.length = sizeLine → GI X S (ip ++ pinsAt fp s5.heap) ys' σ7 H7 s7 → N ys' σ7 H7 →
            Seg (model X.prog X.w) A R (GY X S) n' s₀' (.forLoop tg (.ref it) body [] X.env) (.pure (.again (.forLoop tg (.ref it) body [] X.env)))
              (.ret (fun r => ((match r with | .ok f => (.pure f : Sem Flow) | .error e => .raise e).onRaise (cameBack X.env)).wrap K J gd lv) none (gd false) (lv []) c p [] :: fs) s7 := fun {n' ys' s₀' s7 σ7 H7} hn' G7 n7 => by
          obtain ⟨m', hm, w7⟩ := hN ys' σ7 H7 n7
          obtain ⟨acc7, c7, r7, I7⟩ := id G7
          refine seg_again rfl (ih m' hm (i + 1) n' ys' s₀' s7 σ7 H7 hn' w7 (gi_fewer G7) (T.keep _ _ _ st5 fun b hb o e => ?_) fun b hb => ?_)
          · exact (I7.pin (b, o) (List.mem_append_right _ (List.mem_cons_of_mem _ (List.mem_append_right _ (mem_pinsAt hb e))))).1
          · obtain ⟨o, e, d⟩ := T.obj _ _ st5 b hb
            exact (I7.pin (b, o) (List.mem_append_right _ (List.mem_cons_of_mem _ (List.mem_append_right _ (mem_pinsAt hb e))))).2.1
        refine hb.run A S (ip ++ pinsAt fp s5.heap) R n ys s₀ _ _ _ _ id id s6 σ6 H6 { D with nx := N, ct := N, bk := D.nx } gl2 hn ⟨fun n' ys' s₀' s7 f hn' hs => ?_, fun n' s₀' x s7 hx => ee n' s₀' x s7 hx⟩ ⟨acc, cc, r, I6⟩ q6
        cases f with
        | next => obtain ⟨σ7, H7, G7, n7⟩ := hs; exact again hn' G7 n7
        | cont => obtain ⟨σ7, H7, G7, n7⟩ := hs; exact again hn' G7 n7
        | brk => obtain ⟨σ7, H7, G7, q7⟩ := hs; exact seg_leaf (.ok .next) (k.ok n' ys' s₀' s7 .next hn' ⟨σ7, H7, (gi_fewer G7), q7⟩)
        | ret v => obtain ⟨x7, σ7, H7, G7, r7, q7⟩ := hs; exact seg_leaf (.ok (.ret v)) (k.ok n' ys' s₀' s7 (.ret v) hn' ⟨x7, σ7, H7, (gi_fewer G7), r7, q7⟩)
  exact loop m0 0 n ys s₀ s2 σ H2 hn w0 ⟨acc, cc, r, I2⟩ st2 fun b hb => (f2 b hb).1
/-- over any walk -/
theorem gfor_it {J : It} {n : Nat} {G : Hp → Prop} {Y : Nat → Hp → V → Hp → Prop} (w : Walk J n G Y) {g : TG} {tb : TGn} {D : GEnds} {ys : List V} {σ : L2.St} {H : Hp} (Pv : Nat → List V → L2.St → Hp → Prop) (h0 : Pv 0 ys σ H) (hG : ∀ i ys σ H, i ≤ n → Pv i ys σ H → G H)
    (hs : ∀ i x ys σ H H', i < n → Pv i ys σ H → Y i H x H' → g x σ H' fun σ2 H2 => tb { D with nx := Pv (i + 1), ct := Pv (i + 1), bk := D.nx } ys σ2 H2) (hd : ∀ ys σ H, Pv n ys σ H → D.nx ys σ H) :
    ∃ W : Nat → Nat → List V → L2.St → Hp → Prop, (∃ m, W 0 m ys σ H) ∧ ∀ i m ys σ H, W i m ys σ H →
      (J.stop i H ∧ D.nx ys σ H) ∨ (J.go i H ∧ ∃ N : List V → L2.St → Hp → Prop, (∀ ys' σ' H', N ys' σ' H' → ∃ m', m' < m ∧ W (i + 1) m' ys' σ' H') ∧ ∀ x H', J.yld i H x H' → g x σ H' fun σ2 H2 => tb { D with nx := N, ct := N, bk := D.nx } ys σ2 H2) := by
  refine ⟨fun i m ys σ H => m = n - i ∧ i ≤ n ∧ Pv i ys σ H, ⟨n, by simp, Nat.zero_le _, h0⟩, ?_⟩
  rintro i m ys σ H ⟨rfl, hi, p⟩
  have q := hG i ys σ H hi p
  by_cases hlt : i < n
  · exact .inr ⟨w.goes i H hlt q, Pv (i + 1), fun ys' σ' H' p' => ⟨n - (i + 1), by omega, rfl, hlt, p'⟩, fun x H' y => hs i x ys σ H H' hlt p (w.yields i H x H' hlt q y)⟩
  · have e : i = n := by omega
    subst e
    exact .inl ⟨w.stops H q, hd ys σ H p⟩
end
end OwnR

set_option Elab.async false
set_option linter.all false
set_option maxRecDepth 100000
set_option maxHeartbeats 1000000
namespace Sl
open PySem PySem.Spec L2 OwnR LamX
/-! ### overtakings -/
def posL (n : Str) : List Str → Nat
  | [] => 0
  | a :: r => if a = n then 0 else posL n r + 1
theorem posL_at {n : Str} : ∀ {l : List Str}, n ∈ l → l[posL n l]? = some n
  | a :: r, h => by
    unfold posL
    by_cases e : a = n
    · rw [if_pos e, e]
      rfl
    · rw [if_neg e]
      have hm : n ∈ r := (List.mem_cons.mp h).elim (fun z => absurd z.symm e) id
      have := posL_at hm
      simpa using this
theorem posL_not {n : Str} : ∀ {l : List Str} {m : Nat} {z : Str}, l[m]? = some z → m < posL n l → z ≠ n
  | a :: r, m, z, h, hm => by
    unfold posL at hm
    by_cases e : a = n
    · rw [if_pos e] at hm
      omega
    · rw [if_neg e] at hm
      cases m with
      | zero =>
        have : a = z := by simpa using h
        rw [← this]
        exact e
      | succ m => exact posL_not (l := r) (m := m) (by simpa using h) (by omega)
abbrev OvT := Nat × Str × Str
def ovIn (after : List Str) (k i : Nat) (n : Str) (l : List Str) : List OvT := (l.filter fun o => decide (o ∈ after.drop (i + 1))).map fun o => (k, n, o)
def ovMid (before after : List Str) (k i : Nat) : List OvT := match after[i]? with
  | some n => ovIn after k i n (before.take (posL n before))
  | none => []
def ovSec (before after : List Str) (k i : Nat) : List OvT := (List.range i).flatMap (ovMid before after k)
def ovAll (secs : List Sec) (cars : List Car) (i : Nat) : List OvT := (List.range i).flatMap fun k => ovSec (plcC secs cars k).ord (plcC secs cars (k + 1)).ord k cars.length
theorem ovIn_snoc (after : List Str) (k i : Nat) (n : Str) (l : List Str) (o : Str) : ovIn after k i n (l ++ [o]) = ovIn after k i n l ++ (if o ∈ after.drop (i + 1) then [(k, n, o)] else []) := by
  unfold ovIn
  rw [List.filter_append, List.map_append]
  by_cases h : o ∈ after.drop (i + 1)
  · rw [if_pos h]
    simp [h]
  · rw [if_neg h]
    simp [h]
theorem ovSec_succ (before after : List Str) (k i : Nat) : ovSec before after k (i + 1) = ovSec before after k i ++ ovMid before after k i := by
  unfold ovSec
  rw [List.range_succ, List.flatMap_append]
  simp
theorem ovAll_succ (secs : List Sec) (cars : List Car) (i : Nat) : ovAll secs cars (i + 1) = ovAll secs cars i ++ ovSec (plcC secs cars i).ord (plcC secs cars (i + 1)).ord i cars.length := by
  unfold ovAll
  rw [List.range_succ, List.flatMap_append]
  simp
theorem ovIn_len (after : List Str) (k i : Nat) (n : Str) (l : List Str) : (ovIn after k i n l).length ≤ l.length := by
  unfold ovIn
  rw [List.length_map]
  exact List.length_filter_le _ _
theorem ovMid_len {before : List Str} (after : List Str) (k i : Nat) {b : Nat} (h : before.length ≤ b) : (ovMid before after k i).length ≤ b := by
  unfold ovMid
  split
  · refine Nat.le_trans (ovIn_len _ _ _ _ _) ?_
    rw [List.length_take]
    omega
  · exact Nat.zero_le _
theorem ovSec_len {before : List Str} (after : List Str) (k : Nat) {b : Nat} (h : before.length ≤ b) : ∀ i, (ovSec before after k i).length ≤ i * b
  | 0 => by simp [ovSec]
  | i + 1 => by
    have h1 := ovSec_len after k h i
    have h2 := ovMid_len after k i h
    rw [ovSec_succ, List.length_append, Nat.succ_mul]
    omega
theorem ovAll_len {secs : List Sec} {cars : List Car} (h : cars.length ≤ 10) : ∀ i, (ovAll secs cars i).length ≤ i * 100
  | 0 => by simp [ovAll]
  | i + 1 => by
    have h1 := ovAll_len (secs := secs) h i
    have h2 : (ovSec (plcC secs cars i).ord (plcC secs cars (i + 1)).ord i cars.length).length ≤ cars.length * 10 := ovSec_len _ _ (by
      rw [(plcC_perm secs cars i).length_eq]
      unfold names
      rw [List.length_map]
      exact h) _
    rw [ovAll_succ, List.length_append, Nat.succ_mul]
    omega
def ovV (q : OvT) : List V := [.int (q.1 : Nat), .str q.2.1, .str q.2.2]
def OvAt (H : Hp) (ys : List V) (l : List OvT) : Prop := ys.length = l.length ∧ ∀ (j : Nat) (y : V) (q : OvT), ys[j]? = some y → l[j]? = some q → ∃ t, y = .ref t ∧ H t = some (.tup (ovV q))
theorem OvAt.keep {H H' : Hp} {ys : List V} {l : List OvT} (h : OvAt H ys l) (e : Same H H') : OvAt H' ys l := ⟨h.1, fun j y q e1 e2 => let ⟨t, z1, z2⟩ := h.2 j y q e1 e2; ⟨t, z1, e _ _ z2⟩⟩
theorem OvAt.more {H : Hp} {ys : List V} {l : List OvT} {q : OvT} {t : Addr} (h : OvAt H ys l) (e : H t = some (.tup (ovV q))) : OvAt H (ys ++ [.ref t]) (l ++ [q]) := by
  refine ⟨by rw [List.length_append, List.length_append, h.1]; rfl, fun j y p e1 e2 => ?_⟩
  rcases snoc_get e1 with e1 | ⟨hj, rfl⟩
  · have hj := (List.getElem?_eq_some_iff.mp e1).1
    rw [List.getElem?_append_left (by rw [← h.1]; exact hj)] at e2
    exact h.2 j y p e1 e2
  · rcases snoc_get e2 with e2 | ⟨_, rfl⟩
    · have := (List.getElem?_eq_some_iff.mp e2).1
      rw [h.1] at hj
      omega
    · exact ⟨t, rfl, e⟩
theorem cut_to {l : List V} {k : Nat} (h : k ≤ l.length) : cutV l none (some (k : Nat)) = l.take k := by
  unfold cutV
  have e : HT.sIx l.length l.length (some ((k : Nat) : Int)) = k := by
    show (if ((k : Nat) : Int) < 0 then (((k : Nat) : Int) + ((l.length : Nat) : Int)).toNat else min (((k : Nat) : Int)).toNat l.length) = k
    rw [if_neg (by omega)]
    omega
  have e0 : HT.sIx l.length 0 none = 0 := rfl
  rw [e, e0]
  simp
theorem cut_from {l : List V} {k : Nat} (h : k ≤ l.length) : cutV l (some (k : Nat)) none = l.drop k := by
  unfold cutV
  have e : HT.sIx l.length 0 (some ((k : Nat) : Int)) = k := by
    show (if ((k : Nat) : Int) < 0 then (((k : Nat) : Int) + ((l.length : Nat) : Int)).toNat else min (((k : Nat) : Int)).toNat l.length) = k
    rw [if_neg (by omega)]
    omega
  have e0 : HT.sIx l.length l.length none = l.length := rfl
  rw [e, e0]
  apply List.take_of_length_le
  rw [List.length_drop]
  exact Nat.le_refl _
section
variable {P : Program} {w : World} {K : PySem.W.Frag} {mg : Str → Option Value} {base : Heap}
end
end Sl

set_option Elab.async false
set_option linter.all false
set_option maxRecDepth 100000
set_option maxHeartbeats 1000000
namespace Sl
open PySem PySem.Spec L2 OwnR LamX
/-! ### losses -/
def unitsN (secs : List Sec) : Nat := (secs.map (·.2)).sum
def lossOf (secs : List Sec) (cars : List Car) (c : Car) : Int := (plcC secs cars secs.length).tk c.name - startOf cars c.name - c.pace * ((unitsN secs : Nat) : Int)
def lossK (secs : List Sec) (cars : List Car) : List (Key × V) := cars.map fun c => (Sum.inr c.name, V.int (lossOf secs cars c))
theorem sum_int : ∀ l : List Nat, (l.map fun n => ((n : Nat) : Int)).sum = ((l.sum : Nat) : Int)
  | [] => rfl
  | a :: r => by
    rw [List.map_cons, List.sum_cons, List.sum_cons, sum_int r]
    omega
theorem gkR {H : Hp} {a : Addr} {kvs : List (Key × V)} {n : Str} {v : V} (e : Rd H a (.dK kvs)) (h : valV kvs (Sum.inr n : Key) = some v) : DGet H a (.str n) (some v) := .inl ⟨kvs, Sum.inr n, e, rfl, h.symm⟩
section
variable {P : Program} {w : World} {K : PySem.W.Frag} {mg : Str → Option Value} {base : Heap}
end
end Sl

set_option Elab.async false
set_option linter.all false
set_option maxRecDepth 100000
set_option maxHeartbeats 1000000
namespace Sl
open PySem PySem.Spec L2 OwnR LamX
/-! ### the law's row of drawn numbers -/
def KeepB (r : Addr) (H H' : Hp) : Prop := ∀ b o, H b = some o → b ≠ r → H' b = some o
theorem KeepB.refl (r : Addr) (H : Hp) : KeepB r H H := fun _ _ e _ => e
theorem KeepB.trans {r : Addr} {H H1 H2 : Hp} (a : KeepB r H H1) (b : KeepB r H1 H2) : KeepB r H H2 := fun x o e n => b x o (a x o e n) n
theorem KeepB.of {r : Addr} {H H1 : Hp} (a : Same H H1) : KeepB r H H1 := fun x o e _ => a x o e
theorem KeepB.upd {r : Addr} {H : Hp} (o : HO) : KeepB r H (upd H r o) := fun x p e n => by rw [upd_ne n]; exact e
structure RowAt (K : PySem.W.Frag) (H : Hp) (r sc : Addr) (ns : List Int) : Prop where
  at_ : ∃ (a : Nat) (b c : Int), H r = some (.lst [.ref sc, .int (a : Nat), .int b, .int c])
  scr : ∀ H', KeepB r H H' → SqL K H' sc (ns.map V.int)
theorem KeepB.sqL {K : PySem.W.Frag} {r a : Addr} {H H' : Hp} {xs : List V} (k : KeepB r H H') (n : a ≠ r) (h : SqL K H a xs) : SqL K H' a xs := by
  rcases h with (h | ⟨o, h⟩) | h
  · exact .inl (.inl (k _ _ h n))
  · exact .inl (.inr ⟨o, k _ _ h n⟩)
  · exact .inr h
theorem RowAt.put {K : PySem.W.Frag} {H : Hp} {r sc : Addr} {ns : List Int} (R : RowAt K H r sc ns) (a : Nat) (b c : Int) : RowAt K (upd H r (.lst [.ref sc, .int (a : Nat), .int b, .int c])) r sc ns :=
  ⟨⟨a, b, c, upd_same⟩, fun H' k => R.scr H' ((KeepB.upd _).trans k)⟩
theorem RowAt.same {K : PySem.W.Frag} {H H' : Hp} {r sc : Addr} {ns : List Int} (R : RowAt K H r sc ns) (e : Same H H') : RowAt K H' r sc ns :=
  ⟨let ⟨a, b, c, h⟩ := R.at_; ⟨a, b, c, e _ _ h⟩, fun H2 k => R.scr H2 ((KeepB.of e).trans k)⟩
theorem RowAt.now {K : PySem.W.Frag} {H : Hp} {r sc : Addr} {ns : List Int} (R : RowAt K H r sc ns) : SqL K H sc (ns.map V.int) := R.scr H (KeepB.refl _ _)
section
variable {P : Program} {w : World} {K : PySem.W.Frag} {mg : Str → Option Value} {base : Heap}
def spTaken (K : PySem.W.Frag) : Sp := fun vs H Q _ => ∃ (r sc : Addr) (ns : List Int) (m : Nat), vs = [.ref r, .int (m : Nat)] ∧ 1 ≤ m ∧ m ≤ 1000 ∧ RowAt K H r sc ns ∧ ∀ H' (q : Nat), KeepB r H H' → RowAt K H' r sc ns → q < m → Q (.int (q : Nat)) H'
def nTaken : List Str := ["_law_row", "_law_many", "_law_found", "_law_cell"]
theorem scTaken : FnScope nTaken ["_law_row", "_law_many"] (defScope sTaken) := ⟨rfl, rfl, rfl, by decide +kernel, rfl, by decide +kernel, by decide +kernel⟩
theorem mod_nat (z : Int) {m : Nat} (h : 1 ≤ m) : ∃ q : Nat, z % (m : Int) = (q : Int) ∧ q < m := by
  have h1 := Int.emod_nonneg z (show (m : Int) ≠ 0 by omega)
  have h2 := Int.emod_lt_of_pos z (show (0 : Int) < m by omega)
  exact ⟨(z % (m : Int)).toNat, by omega, by omega⟩
theorem ok_taken {f : Addr} {fd : FuncData} (F : Fun K "_law_taken" "_law_taken" sTaken f fd) (M : Mg mg) : FnOk P w K mg base CX0 1 f fd ["_law_row", "_law_many"] (spTaken K) := by
  refine F.ok scTaken (fun vs H Q E h => ?_) (fun cdv A outer s H vs Q E hr h => ?_)
  · obtain ⟨r, sc, ns, m, rfl, _⟩ := h
    rfl
  · obtain ⟨r, sc, ns, m, rfl, h1, h1000, ⟨⟨a, b, c, hrow⟩, hsc⟩, k⟩ := h
    have nd := scTaken.nd
    refine ⟨_, pss_cons (ps_if (pt_cmpR op_gt (pe_ix ix_list (pv 0) pe_int (fun _ _ => rfl)) pe_int (nomark _))
        (pss_cons (ps_set (i := 2) nd rfl (.inl rfl) (pe_op op_mod (pe_callTy call_int1 (by rfl) M.int boot_tInt (pa_cons (pe_ix ix_list (pv 0) pe_int (fun _ _ => rfl)) pa_nil)) (pv 1)))
        (pss_cons (ps_asg (pe_op op_fdiv (pe_ix ix_list (pv 0) pe_int (fun _ _ => rfl)) (pv 1)) (pg_sub (pv 0) pe_int set_list))
        (pss_one (ps_ret (pv 2))))) pss_nil)
      (pss_cons (ps_asg (pe_op op_add (pe_ix ix_list (pv 0) pe_int (fun _ _ => rfl)) pe_int) (pg_sub (pv 0) pe_int set_list))
      (pss_cons (ps_if (pt_cmpR op_gt (pe_ix ix_list (pv 0) pe_int (fun _ _ => rfl)) (pe_callB call_len_seq (by rfl) M.len boot_len (pa_cons (pe_ix ix_list (pv 0) pe_int (fun _ _ => rfl)) pa_nil)) (nomark _))
        (pss_cons (ps_asg (pe_op op_mod (pe_callTy call_int1 (by rfl) M.int boot_tInt (pa_cons (pe_op op_add (pe_op op_mul (pe_ix ix_list (pv 0) pe_int (fun _ _ => rfl)) pe_int) pe_int) pa_nil)) pe_int) (pg_sub (pv 0) pe_int set_list))
        (pss_one (ps_ret (pe_op op_mod (pe_callTy call_int1 (by rfl) M.int boot_tInt (pa_cons (pe_op op_fdiv (pe_ix ix_list (pv 0) pe_int (fun _ _ => rfl)) pe_int) pa_nil)) (pv 1))))) pss_nil)
      (pss_cons (ps_set (i := 3) nd rfl (.inl rfl) (pe_ix ix_list (pe_ix ix_list (pv 0) pe_int (fun _ _ => rfl)) (pe_op op_sub (pe_ix ix_list (pv 0) pe_int (fun _ _ => rfl)) pe_int) (fun _ _ => rfl)))
      (pss_cons (ps_asg (pe_op op_mod (pe_callTy call_int1 (by rfl) M.int boot_tInt (pa_cons (pe_op op_add (pe_op op_add (pe_op op_mul (pe_ix ix_list (pv 0) pe_int (fun _ _ => rfl)) pe_int) (pv 3)) pe_int) pa_nil)) pe_int) (pg_sub (pv 0) pe_int set_list))
      (pss_cons (ps_asg (pe_ifExp (pt_cmpR op_ge (pv 3) (pe_op op_pow pe_int pe_int) (nomark _)) (pe_op op_fdiv (pv 3) (pv 1)) pe_int) (pg_sub (pv 0) pe_int set_list))
      (pss_one (ps_ret (pe_op op_mod (pe_callTy call_int1 (by rfl) M.int boot_tInt (pa_cons (pv 3) pa_nil)) (pv 1))))))))), ?_⟩
    have at0 : ∀ (x y z v : V), atI [x, y, z, v] 0 = some x := fun _ _ _ _ => rfl
    have at1 : ∀ (x y z v : V), atI [x, y, z, v] 1 = some y := fun _ _ _ _ => rfl
    have at2 : ∀ (x y z v : V), atI [x, y, z, v] 2 = some z := fun _ _ _ _ => rfl
    have at3 : ∀ (x y z v : V), atI [x, y, z, v] 3 = some v := fun _ _ _ _ => rfl
    have R0 : RowAt K H r sc ns := ⟨⟨a, b, c, hrow⟩, hsc⟩
    have md : ∀ z : Int, ∃ q : Nat, z % ((m : Nat) : Int) = (q : Int) ∧ q < m := fun z => mod_nat z h1
    refine ⟨_, rfl, r, _, 3, _, rfl, rfl, SqL.of hrow, at3 _ _ _ _, _, _, rfl, rfl, _, rfl, ?_⟩
    by_cases hc : 0 < c
    · rw [decide_eq_true hc]
      refine iteT ?_
      obtain ⟨q, eq, hq⟩ := md c
      refine ⟨_, rfl, r, _, 3, _, rfl, rfl, SqL.of hrow, at3 _ _ _ _, .inl ⟨c, rfl, _, rfl, _, _, rfl, rfl, by omega, ?_⟩⟩
      refine ⟨_, rfl, r, _, 3, _, rfl, rfl, SqL.of hrow, at3 _ _ _ _, _, rfl, _, _, rfl, rfl, ⟨by omega, by omega⟩, ?_⟩
      refine ⟨_, rfl, r, _, 3, 3, rfl, rfl, hrow, rfl, ?_⟩
      have z := k _ q (KeepB.upd _) (R0.put a b (c / ((m : Nat) : Int))) hq
      rw [← eq] at z
      exact ⟨_, rfl, z⟩
    · rw [decide_eq_false hc]
      refine iteF ?_
      refine ⟨_, rfl, r, _, 1, _, rfl, rfl, SqL.of hrow, at1 _ _ _ _, _, _, rfl, rfl, ?_⟩
      refine ⟨_, rfl, r, _, 1, 1, rfl, rfl, hrow, rfl, ?_⟩
      have hrow1 : upd H r (.lst ([V.ref sc, .int ((a : Nat) : Int), .int b, .int c].set 1 (.int (((a : Nat) : Int) + 1)))) r = some (.lst [V.ref sc, .int (((a + 1 : Nat)) : Int), .int b, .int c]) := by
        rw [upd_same]
        rfl
      have R1 : RowAt K (upd H r (.lst ([V.ref sc, .int ((a : Nat) : Int), .int b, .int c].set 1 (.int (((a : Nat) : Int) + 1))))) r sc ns := R0.put (a + 1) b c
      have k1 : KeepB r H (upd H r (.lst ([V.ref sc, .int ((a : Nat) : Int), .int b, .int c].set 1 (.int (((a : Nat) : Int) + 1))))) := KeepB.upd _
      show tSeq _ _ _ _ (upd H r (.lst ([V.ref sc, .int ((a : Nat) : Int), .int b, .int c].set 1 (.int (((a : Nat) : Int) + 1)))))
      generalize upd H r (.lst ([V.ref sc, .int ((a : Nat) : Int), .int b, .int c].set 1 (.int (((a : Nat) : Int) + 1)))) = H1 at hrow1 R1 k1 ⊢
      refine ⟨_, rfl, r, _, 1, _, rfl, rfl, SqL.of hrow1, at1 _ _ _ _, _, rfl, r, _, 0, _, rfl, rfl, SqL.of hrow1, at0 _ _ _ _, sc, _, rfl, .inl R1.now, _, _, rfl, rfl, _, rfl, ?_⟩
      by_cases hl : (((ns.map V.int).length : Nat) : Int) < (((a + 1 : Nat)) : Int)
      · rw [decide_eq_true hl]
        refine iteT ?_
        refine ⟨_, rfl, r, _, 2, _, rfl, rfl, SqL.of hrow1, at2 _ _ _ _, _, _, rfl, rfl, .inr ⟨by decide, by decide⟩, _, _, rfl, rfl, .inl ⟨_, rfl, _, _, rfl, rfl, (show (0 : Int) < 2147483647 by decide), ?_⟩⟩
        refine ⟨_, rfl, r, _, 2, 2, rfl, rfl, hrow1, rfl, ?_⟩
        have hrow2 : upd H1 r (.lst ([V.ref sc, .int (((a + 1 : Nat)) : Int), .int b, .int c].set 2 (.int ((b * 48271 + 11) % 2147483647)))) r = some (.lst [V.ref sc, .int (((a + 1 : Nat)) : Int), .int ((b * 48271 + 11) % 2147483647), .int c]) := by
          rw [upd_same]
          rfl
        refine ⟨_, rfl, r, _, 2, _, rfl, rfl, SqL.of hrow2, at2 _ _ _ _, _, _, rfl, rfl, ⟨by decide, by decide⟩, .inl ⟨_, rfl, _, rfl, _, _, rfl, rfl, by omega, ?_⟩⟩
        obtain ⟨q, eq, hq⟩ := md ((b * 48271 + 11) % 2147483647 / 7)
        have z := k _ q (k1.trans (KeepB.upd _)) (R1.put (a + 1) ((b * 48271 + 11) % 2147483647) c) hq
        rw [← eq] at z
        exact z
      · rw [decide_eq_false hl]
        refine iteF ?_
        rw [List.length_map] at hl
        have hal : a < ns.length := by omega
        obtain ⟨cell, hcell⟩ : ∃ z, ns[a]? = some z := ⟨_, List.getElem?_eq_getElem hal⟩
        refine ⟨_, rfl, r, _, 0, _, rfl, rfl, SqL.of hrow1, at0 _ _ _ _, _, rfl, r, _, 1, _, rfl, rfl, SqL.of hrow1, at1 _ _ _ _, _, _, rfl, rfl, sc, _, ((a : Nat) : Int), .int cell, rfl, ?_, R1.now, atI_nat (map_at V.int hcell), ?_⟩
        · show V.int ((((a + 1 : Nat)) : Int) - 1) = V.int ((a : Nat) : Int)
          congr 1
          omega
        refine ⟨_, rfl, r, _, 2, _, rfl, rfl, SqL.of hrow1, at2 _ _ _ _, _, _, rfl, rfl, .inr ⟨by decide, by decide⟩, _, rfl, _, _, rfl, rfl, _, _, rfl, rfl, .inl ⟨_, rfl, _, _, rfl, rfl, (show (0 : Int) < 2147483647 by decide), ?_⟩⟩
        refine ⟨_, rfl, r, _, 2, 2, rfl, rfl, hrow1, rfl, ?_⟩
        have hrow2 : upd H1 r (.lst ([V.ref sc, .int (((a + 1 : Nat)) : Int), .int b, .int c].set 2 (.int ((b * 48271 + cell + 11) % 2147483647)))) r = some (.lst [V.ref sc, .int (((a + 1 : Nat)) : Int), .int ((b * 48271 + cell + 11) % 2147483647), .int c]) := by
          rw [upd_same]
          rfl
        have R2 : RowAt K (upd H1 r (.lst ([V.ref sc, .int (((a + 1 : Nat)) : Int), .int b, .int c].set 2 (.int ((b * 48271 + cell + 11) % 2147483647))))) r sc ns := R1.put (a + 1) _ c
        have k2 := k1.trans (KeepB.upd (r := r) (H := H1) (.lst ([V.ref sc, .int (((a + 1 : Nat)) : Int), .int b, .int c].set 2 (.int ((b * 48271 + cell + 11) % 2147483647)))))
        show tSeq _ _ _ _ (upd H1 r (.lst ([V.ref sc, .int (((a + 1 : Nat)) : Int), .int b, .int c].set 2 (.int ((b * 48271 + cell + 11) % 2147483647)))))
        generalize upd H1 r (.lst ([V.ref sc, .int (((a + 1 : Nat)) : Int), .int b, .int c].set 2 (.int ((b * 48271 + cell + 11) % 2147483647)))) = H2 at hrow2 R2 k2 ⊢
        refine ⟨_, rfl, _, _, rfl, rfl, ⟨by decide, by decide, by decide⟩, _, _, rfl, rfl, _, rfl, ?_⟩
        obtain ⟨q, eq, hq⟩ := md cell
        by_cases hb : (10 : Int) ^ (18 : Int).toNat ≤ cell
        · rw [decide_eq_true hb]
          refine iteT ?_
          refine ⟨_, rfl, _, rfl, _, _, rfl, rfl, ⟨by omega, by omega⟩, ?_⟩
          refine ⟨_, rfl, r, _, 3, 3, rfl, rfl, hrow2, rfl, ?_⟩
          refine ⟨_, rfl, .inl ⟨_, rfl, _, rfl, _, _, rfl, rfl, by omega, ?_⟩⟩
          have z := k _ q (k2.trans (KeepB.upd _)) (R2.put (a + 1) ((b * 48271 + cell + 11) % 2147483647) (cell / ((m : Nat) : Int))) hq
          rw [← eq] at z
          exact z
        · rw [decide_eq_false hb]
          refine iteF ?_
          refine ⟨_, rfl, r, _, 3, 3, rfl, rfl, hrow2, rfl, ?_⟩
          refine ⟨_, rfl, .inl ⟨_, rfl, _, rfl, _, _, rfl, rfl, by omega, ?_⟩⟩
          have z := k _ q (k2.trans (KeepB.upd _)) (R2.put (a + 1) ((b * 48271 + cell + 11) % 2147483647) 0) hq
          rw [← eq] at z
          exact z
end
end Sl

set_option Elab.async false
set_option linter.all false
set_option maxRecDepth 100000
set_option maxHeartbeats 1000000
namespace Sl
open PySem PySem.Spec L2 OwnR LamX
/-! ### runs of random units -/
theorem rstep_same (acc : List (Bool × Nat)) (b : Bool) (n : Nat) (h : acc.getLast? = some (b, n)) : rstep acc b = acc.dropLast ++ [(b, n + 1)] := by
  unfold rstep
  rw [h]
  simp
theorem rstep_last (acc : List (Bool × Nat)) (b : Bool) : ∃ n, (rstep acc b).getLast? = some (b, n) := by
  unfold rstep
  split
  · exact ⟨1, rfl⟩
  · rename_i k n h
    split
    · rename_i e
      exact ⟨n + 1, by rw [List.getLast?_append, e]; rfl⟩
    · exact ⟨1, by rw [List.getLast?_append]; rfl⟩
theorem rstep_again (acc : List (Bool × Nat)) (b : Bool) {n : Nat} (h : acc.getLast? = some (b, n)) : (rstep acc b).length = acc.length := by
  rw [rstep_same acc b n h, List.length_append, List.length_dropLast]
  have : acc ≠ [] := fun z => by rw [z] at h; cases h
  have := List.length_pos_iff.mpr this
  simp
  omega
theorem runs_rep (b : Bool) : ∀ (n : Nat) (acc : List (Bool × Nat)) (m : Nat), acc.getLast? = some (b, m) → ((List.replicate n b).foldl rstep acc).length = acc.length
  | 0, acc, m, h => rfl
  | n + 1, acc, m, h => by
    rw [List.replicate_succ, List.foldl_cons]
    obtain ⟨q, hq⟩ := rstep_last acc b
    rw [runs_rep b n _ q hq, rstep_again acc b h]
theorem runsOf_more (bs : List Bool) (b : Bool) (n : Nat) : (runsOf (bs ++ List.replicate n b)).length ≤ (runsOf bs).length + 1 := by
  unfold runsOf
  rw [List.foldl_append]
  generalize List.foldl rstep [] bs = acc
  cases n with
  | zero => simp
  | succ n =>
    rw [List.replicate_succ, List.foldl_cons]
    obtain ⟨q, hq⟩ := rstep_last acc b
    rw [runs_rep b n _ q hq]
    exact rstep_len acc b
theorem runsOf_bound (bs : List Bool) : ∀ s ∈ runsOf bs, 1 ≤ s.2 ∧ s.2 ≤ bs.length := by
  have h : ∀ (l : List Bool) (acc : List (Bool × Nat)) (m : Nat), (∀ s ∈ acc, 1 ≤ s.2 ∧ s.2 ≤ m) → ∀ s ∈ l.foldl rstep acc, 1 ≤ s.2 ∧ s.2 ≤ m + l.length := by
    intro l
    induction l with
    | nil => intro acc m h; simpa using h
    | cons b r ih =>
      intro acc m h s hs
      have h2 : ∀ s ∈ rstep acc b, 1 ≤ s.2 ∧ s.2 ≤ m + 1 := by
        intro s hs
        unfold rstep at hs
        split at hs
        · rw [List.mem_singleton.mp hs]
          exact ⟨Nat.le_refl _, by omega⟩
        · rename_i k n e
          have he := h (k, n) (List.mem_of_getLast? e)
          split at hs
          · rcases List.mem_append.mp hs with hs | hs
            · have := h s ((List.dropLast_sublist acc).subset hs)
              omega
            · rw [List.mem_singleton.mp hs]
              exact ⟨by show 1 ≤ n + 1; omega, by show n + 1 ≤ m + 1; have := he.2; simp at this; omega⟩
          · rcases List.mem_append.mp hs with hs | hs
            · have := h s hs
              omega
            · rw [List.mem_singleton.mp hs]
              exact ⟨Nat.le_refl _, by show 1 ≤ m + 1; omega⟩
      have := ih (rstep acc b) (m + 1) h2 s hs
      rw [List.length_cons]
      omega
  have := h bs [] 0 (fun s hs => nomatch hs)
  simpa [runsOf] using this
theorem runsOf_ne {bs : List Bool} (h : bs ≠ []) : runsOf bs ≠ [] := by
  obtain ⟨r, x, rfl⟩ : ∃ r x, bs = r ++ [x] := ⟨bs.dropLast, bs.getLast h, (List.dropLast_concat_getLast h).symm⟩
  rw [runsOf_snoc]
  intro z
  obtain ⟨n, hn⟩ := rstep_last (runsOf r) x
  rw [z] at hn
  cases hn
theorem secsOk_runs {bs : List Bool} {m : Nat} (h1 : 1 ≤ bs.length) (h2 : bs.length ≤ 99) (h3 : (runsOf bs).length ≤ 12) : SecsOk (runsOf bs) :=
  ⟨runsOf_ne fun z => by rw [z] at h1; simp at h1, h3, fun s hs => let ⟨a, b⟩ := runsOf_bound bs s hs; ⟨a, by omega⟩⟩
section
variable {P : Program} {w : World} {K : PySem.W.Frag} {mg : Str → Option Value} {base : Heap}
def spUnits (K : PySem.W.Frag) : Sp := fun vs H Q _ => ∃ (r sc : Addr) (ns : List Int) (m : Nat), vs = [.ref r, .int (m : Nat)] ∧ 1 ≤ m ∧ m ≤ 12 ∧ RowAt K H r sc ns ∧
  ∀ H' (u : Str) (bs : List Bool), KeepB r H H' → RowAt K H' r sc ns → u.cps.toList = bs.map letterC → 1 ≤ bs.length → bs.length ≤ m * 6 → (runsOf bs).length ≤ m → Q (.str u) H'
def nUnits : List Str := ["_law_row", "_law_most", "_law_units_here", "_law_k"]
theorem scUnits : FnScope nUnits ["_law_row", "_law_most"] (defScope sUnits) := ⟨rfl, rfl, rfl, by decide +kernel, rfl, by decide +kernel, by decide +kernel⟩
theorem nw_at (b : Bool) : atI (("nw" : Str).cps.toList) (if b then 1 else 0) = some (letterC b) := by cases b <;> decide +kernel
theorem ok_units {f fT : Addr} {fd dT : FuncData} (F : Fun K "_law_units" "_law_units" sUnits f fd) (M : Mg mg) (BT : Fb K mg "_law_taken" sTaken ["_law_row", "_law_many"] fT dT)
    (GT : FnOk P w K mg base CX0 1 fT dT ["_law_row", "_law_many"] (spTaken K)) : FnOk P w K mg base CX0 2 f fd ["_law_row", "_law_most"] (spUnits K) := by
  refine F.ok scUnits (fun vs H Q E h => ?_) (fun cdv A outer s H vs Q E hr h => ?_)
  · obtain ⟨r, sc, ns, m, rfl, _⟩ := h
    rfl
  · obtain ⟨r, sc, ns, m, rfl, h1, h12, R0, k⟩ := h
    have nd := scUnits.nd
    refine ⟨_, pss_cons (ps_set (i := 2) nd rfl (.inl rfl) pe_str)
      (pss_cons (ps_for PassesOwn.never rfl (pi_range1 (by rfl) M.range (pa_cons (pe_op op_add pe_int (pe_call GT hr (by rfl) BT.at_ BT.fn.kp BT.bd .nil pass0 (pa_cons (pv 0) (pa_cons (pv 1) pa_nil)))) pa_nil)) (pg_name (i := 3) nd rfl (.inl rfl))
        (pss_one (ps_set (i := 2) nd rfl (.inl rfl) (pe_op op_add_str (pv 2) (pe_op op_repS (pe_ix ix_str pe_str (pe_op op_mod (pe_callTy call_int1 (by rfl) M.int boot_tInt (pa_cons (pe_op op_add (pv 3) (pe_call GT hr (by rfl) BT.at_ BT.fn.kp BT.bd .nil pass0 (pa_cons (pv 0) (pa_cons pe_int pa_nil)))) pa_nil)) pe_int) (fun _ _ => rfl))
          (pe_op op_add pe_int (pe_call GT hr (by rfl) BT.at_ BT.fn.kp BT.bd .nil pass0 (pa_cons (pv 0) (pa_cons (pe_ix ix_list (pe_lst (pa_cons pe_int (pa_cons pe_int pa_nil))) (pe_call GT hr (by rfl) BT.at_ BT.fn.kp BT.bd .nil pass0 (pa_cons (pv 0) (pa_cons pe_int pa_nil))) (fun _ _ => rfl)) pa_nil)))))))))
      (pss_one (ps_ret (pv 2)))), ?_⟩
    refine ⟨_, rfl, _, rfl, r, sc, ns, m, rfl, h1, by omega, R0, fun H1 q k1 R1 hq => ?_⟩
    refine ⟨_, _, rfl, rfl, (1 + ((q : Nat) : Int)), rfl, by omega, by omega, ?_⟩
    have en : (1 + ((q : Nat) : Int)).toNat = q + 1 := by omega
    rw [en]
    refine for_it walk_range (fun i σ H2 => ∃ (u : Str) (bs : List Bool) (v3 : Option V), σ = [some (.ref r), some (.int ((m : Nat) : Int)), some (.str u), v3] ∧ KeepB r H H2 ∧ RowAt K H2 r sc ns ∧ u.cps.toList = bs.map letterC ∧ i ≤ bs.length ∧ bs.length ≤ i * 6 ∧ (runsOf bs).length ≤ i)
      ⟨"", [], none, rfl, k1, R1, by decide +kernel, Nat.le_refl _, Nat.le_refl _, Nat.le_refl _⟩ (fun _ _ _ _ _ => True.intro) ?_ ?_
    · rintro i x σ H2 H3 hi ⟨u, bs, v3, rfl, k2, R2, hu, b1, b6, hb⟩ ⟨e, ex⟩
      have ex2 : x = V.int ((i : Nat) : Int) := by
        rw [ex]
        show V.int (0 + ((i : Nat) : Int)) = _
        rw [Int.zero_add]
      clear ex
      subst e ex2
      refine ⟨_, rfl, _, rfl, _, rfl, r, sc, ns, 2, rfl, by omega, by omega, R2, fun H4 q1 k4 R4 hq1 => ?_⟩
      obtain ⟨b, hb2⟩ : ∃ b : Bool, (((i : Nat) : Int) + ((q1 : Nat) : Int)) % 2 = if b then 1 else 0 := by
        rcases Int.emod_two_eq (((i : Nat) : Int) + ((q1 : Nat) : Int)) with z | z
        · exact ⟨false, z⟩
        · exact ⟨true, z⟩
      refine ⟨_, _, rfl, rfl, .inl ⟨_, rfl, _, _, rfl, rfl, (show (0 : Int) < 2 by decide), ("nw" : Str), _, letterC b, rfl, rfl, by decide, ?_, ?_⟩⟩
      · rw [hb2]
        exact nw_at b
      refine ⟨_, rfl, by show 2 ≤ sizeLine; decide, fun l hl => ?_⟩
      have s5 : Same H4 (upd H4 l (.lst [.int 2, .int 6])) := fun b o e => by rw [upd_ne (ne_of_none e hl)]; exact e
      have R5 := R4.same s5
      refine ⟨_, rfl, r, sc, ns, 2, rfl, by omega, by omega, R5, fun H6 q2 k6 R6 hq2 => ?_⟩
      have hl6 : H6 l = some (.lst [.int 2, .int 6]) := k6 _ _ upd_same fun z => by
        obtain ⟨a, b', c, h⟩ := R4.at_
        rw [z, h] at hl
        cases hl
      obtain ⟨m2, hm2, hm6, hat⟩ : ∃ m2 : Nat, 1 ≤ m2 ∧ m2 ≤ 6 ∧ atI [V.int 2, V.int 6] ((q2 : Nat) : Int) = some (V.int ((m2 : Nat) : Int)) := by
        have : q2 = 0 ∨ q2 = 1 := by omega
        rcases this with z | z
        · exact ⟨2, by decide, by decide, by rw [z]; rfl⟩
        · exact ⟨6, by decide, by decide, by rw [z]; rfl⟩
      refine ⟨l, _, _, _, rfl, rfl, SqL.of hl6, hat, r, sc, ns, m2, rfl, hm2, by omega, R6, fun H7 q3 k7 R7 hq3 => ?_⟩
      refine ⟨_, _, rfl, rfl, ?_⟩
      rw [letterS_eq]
      have el : (letterS b).length = 1 := by cases b <;> decide +kernel
      refine ⟨letterS b, q3 + 1, rfl, by show V.int (1 + ((q3 : Nat) : Int)) = _; congr 1; omega, by omega, by omega, by rw [el]; omega, fun z hz => ?_⟩
      have ez : z.cps.toList = (List.replicate (q3 + 1) b).map letterC := by
        rw [hz, letter_toList, List.map_replicate]
        induction (q3 + 1) with
        | zero => rfl
        | succ n ih => rw [List.replicate_succ, List.flatten_cons, ih, List.replicate_succ]; rfl
      have lu : u.length = bs.length := by
        have := congrArg List.length hu
        show u.cps.size = bs.length
        simpa using this
      have lz : z.length = q3 + 1 := by
        have := congrArg List.length ez
        show z.cps.size = q3 + 1
        simpa using this
      have hi7 : i < q + 1 := hi
      refine ⟨u, z, rfl, rfl, by rw [lu, lz]; exact Nat.le_of_lt (small1000 (by omega)), ?_⟩
      refine ⟨_, bs ++ List.replicate (q3 + 1) b, _, rfl, k2.trans (k4.trans ((KeepB.of s5).trans (k6.trans k7))), R7, ?_, by simp; omega, by simp; omega, Nat.le_trans (runsOf_more bs b (q3 + 1)) (by omega)⟩
      show ((u ++ z).cps).toList = _
      rw [List.map_append, ← hu, ← ez]
      show (u.cps ++ z.cps).toList = _
      simp
    · rintro σ H2 ⟨u, bs, v3, rfl, k2, R2, hu, b1, b6, hb⟩
      exact ⟨_, rfl, k H2 u bs k2 R2 hu (by omega) (by omega) (by omega)⟩
end
end Sl

set_option Elab.async false
set_option linter.all false
set_option maxRecDepth 100000
set_option maxHeartbeats 1000000
namespace Sl
open PySem PySem.Spec L2 OwnR LamX
/-! ### data that is compared -/
def Shp (n : Nat) (d : PyData) : Prop := d.canLay0 = true ∧ d.depth ≤ n
theorem Shp.ok {n : Nat} {d : PyData} (h : Shp n d) (hn : n ≤ 64) : SeqAt.shaped d = true := by
  unfold SeqAt.shaped
  rw [h.1, decide_eq_true (Nat.le_trans h.2 hn)]
  rfl
theorem shp_all {n : Nat} : ∀ {ds : List PyData}, (∀ d ∈ ds, Shp n d) → PyData.canLayAll0 ds = true ∧ PyData.depthAll ds ≤ n
  | [], _ => ⟨rfl, Nat.zero_le _⟩
  | d :: ds, h => by
    have h1 := h d List.mem_cons_self
    have h2 := shp_all (ds := ds) fun e he => h e (List.mem_cons_of_mem _ he)
    refine ⟨?_, ?_⟩
    · show (d.canLay0 && PyData.canLayAll0 ds) = true
      rw [h1.1, h2.1]
      rfl
    · show max d.depth (PyData.depthAll ds) ≤ n
      exact Nat.max_le.mpr ⟨h1.2, h2.2⟩
theorem shp_list {n : Nat} {ds : List PyData} (h : ∀ d ∈ ds, Shp n d) : Shp (n + 1) (.list ds) := ⟨(shp_all h).1, Nat.succ_le_succ (shp_all h).2⟩
theorem shp_tuple {n : Nat} {ds : List PyData} (h : ∀ d ∈ ds, Shp n d) : Shp (n + 1) (.tuple ds) := ⟨(shp_all h).1, Nat.succ_le_succ (shp_all h).2⟩
theorem shp_int (i : Int) : Shp 0 (.int i) := ⟨rfl, Nat.le_refl _⟩
theorem shp_non : Shp 0 .none := ⟨rfl, Nat.le_refl _⟩
theorem shp_str {x : Str} (h : PyData.strOk x = true) : Shp 0 (.str x) := ⟨h, Nat.le_refl _⟩
theorem Shp.same {n : Nat} {d : PyData} (h : Shp n d) : PyData.eqv d d = true := SeqAt.eqv_refl d h.1
theorem dp_refs {K : PySem.W.Frag} {H : Hp} {α : Type} (f : α → PyData) : ∀ {as : List Addr} {l : List α}, as.length = l.length → (∀ (i : Nat) (a : Addr) (x : α), as[i]? = some a → l[i]? = some x → Dp K H (.ref a) (f x)) → DpAll K H (as.map V.ref) (l.map f)
  | [], [], _, _ => .nil
  | a :: as, x :: l, hl, h => .cons (h 0 a x rfl rfl) (dp_refs f (by simpa using hl) fun i b y e1 e2 => h (i + 1) b y (by simpa using e1) (by simpa using e2))
theorem dp_vals {K : PySem.W.Frag} {H : Hp} {α : Type} (v : α → V) (f : α → PyData) (h : ∀ x, Dp K H (v x) (f x)) : ∀ (l : List α), DpAll K H (l.map v) (l.map f)
  | [] => .nil
  | x :: l => .cons (h x) (dp_vals v f h l)
/-- sections as data -/
def secD (s : Sec) : PyData := .tuple [.str (kindS s.1), .int (s.2 : Nat)]
def secsD (secs : List Sec) : PyData := .list (secs.map secD)
theorem kind_ok (b : Bool) : PyData.strOk (kindS b) = true := by cases b <;> decide +kernel
theorem shp_secD (s : Sec) : Shp 1 (secD s) := shp_tuple fun d hd => by
  rcases List.mem_cons.mp hd with e | hd
  · rw [e]; exact shp_str (kind_ok _)
  · rw [List.mem_singleton.mp hd]; exact shp_int _
theorem shp_secsD (secs : List Sec) : Shp 2 (secsD secs) := shp_list fun d hd => by
  obtain ⟨s, _, rfl⟩ := List.mem_map.mp hd
  exact shp_secD s
theorem dp_secV {K : PySem.W.Frag} {H : Hp} {t : Addr} {s : Sec} (h : H t = some (.tup (secV s))) : Dp K H (.ref t) (secD s) := .tup (SqT.of h) (.cons (.str _) (.cons (.int _) .nil))
theorem RunsAt.dp {K : PySem.W.Frag} {H : Hp} {a : Addr} {secs : List Sec} (h : RunsAt H a secs) : Dp K H (.ref a) (secsD secs) := by
  obtain ⟨ts, h1, h2, h3⟩ := h
  exact .lst (SqL.of h1) (dp_refs secD h2 fun i b s e1 e2 => dp_secV (h3 i b s e1 e2))
theorem RunsAt.ext {H H' : Hp} {a : Addr} {secs : List Sec} (h : RunsAt H a secs) (e : ExtN H H') : RunsAt H' a secs := by
  obtain ⟨ts, h1, h2, h3⟩ := h
  exact ⟨ts, ExtN.lst e h1, h2, fun i b s e1 e2 => ExtN.tup e (h3 i b s e1 e2)⟩
theorem shp_nil : Shp 1 (.list []) := shp_list fun d hd => nomatch hd
theorem kindS_inj (a b : Bool) : decide (V.str (kindS a) = V.str (kindS b)) = decide (a = b) := by cases a <;> cases b <;> decide +kernel
theorem ixN_last {n m : Nat} (h : n = m + 1) : ixN n (-1) = some m := by
  unfold ixN
  rw [if_neg (by omega), if_pos (by omega)]
  congr 1
  omega
theorem set_last {α : Type} (A : List α) (x v : α) {m : Nat} (h : A.length = m) : (A ++ [x]).set m v = A ++ [v] := by
  subst h
  induction A with
  | nil => rfl
  | cons a r ih => rw [List.cons_append, List.length_cons, List.set_cons_succ, ih]; rfl
theorem kindIf (b : Bool) {σ : L2.St} {H : Hp} {G : V → Hp → Prop} (h : G (.str (kindS b)) H) : if (!b) = true then tC (.str "narrow") σ H G else tC (.str "wide") σ H G := by
  cases b
  · exact h
  · exact h
section
variable {P : Program} {w : World} {K : PySem.W.Frag} {mg : Str → Option Value} {base : Heap}
def spSections : Sp := fun vs H Q _ => ∃ (u : Str) (bs : List Bool), vs = [.str u] ∧ u.cps.toList = bs.map letterC ∧ bs.length ≤ 1000 ∧ ∀ H' p, Same H H' → H p = none → RunsAt H' p (runsOf bs) → Q (.ref p) H'
def nSections : List Str := ["_law_units_here", "_law_found", "_law_sign", "_law_kind"]
theorem scSections : FnScope nSections ["_law_units_here"] (defScope sSections) := ⟨rfl, rfl, rfl, by decide +kernel, rfl, by decide +kernel, by decide +kernel⟩
theorem ok_sections {f : Addr} {fd : FuncData} (F : Fun K "_law_sections" "_law_sections" sSections f fd) (M : Mg mg) : FnOk P w K mg base CX0 1 f fd ["_law_units_here"] spSections := by
  refine F.ok scSections (fun vs H Q E h => ?_) (fun cdv A outer s H vs Q E hr h => ?_)
  · obtain ⟨u, bs, rfl, _⟩ := h
    rfl
  · obtain ⟨u, bs, rfl, hu, hlen, k⟩ := h
    have nd := scSections.nd
    have hu64 := hr.units
    refine ⟨_, pss_cons (ps_set (i := 1) nd rfl (.inl rfl) (pe_lst pa_nil))
      (pss_cons (ps_for PassesOwn.never rfl (pi_str (pv 0)) (pg_name (i := 2) nd rfl (.inl rfl))
        (pss_cons (ps_set (i := 3) nd rfl (.inl rfl) (pe_ifExp (pt_cmpR op_eq (pv 2) pe_str (nomark _)) pe_str pe_str))
        (pss_one (ps_if (PW.pt (pw_and (pt_cmpR (op_neD hu64) (pv 1) (pe_lst pa_nil) (nomark _)) (pw_and1 (pt_cmpR op_eq (pe_ix ix_tup (pe_ix ix_list (pv 1) (pe_un un_neg pe_int) (fun _ _ => rfl)) pe_int (fun _ _ => rfl)) (pv 3) (nomark _)))))
          (pss_one (ps_asg (pe_tup (pa_cons (pv 3) (pa_cons (pe_op op_add (pe_ix ix_tup (pe_ix ix_list (pv 1) (pe_un un_neg pe_int) (fun _ _ => rfl)) pe_int (fun _ _ => rfl)) pe_int) pa_nil))) (pg_sub (pv 1) (pe_un un_neg pe_int) set_list)))
          (pss_one (ps_expr (pe_bm PySem.F.plainAttrs_list PySem.F.slot_list_append PySem.F.type_list_append mt_append (pv 1) (pa_cons (pe_tup (pa_cons (pv 3) (pa_cons pe_int pa_nil))) pa_nil))))))))
      (pss_one (ps_ret (pv 1)))), ?_⟩
    refine ⟨Nat.zero_le _, fun L hL => ?_⟩
    have hsz : u.cps.size = bs.length := by
      have := congrArg List.length hu
      simpa using this
    refine ⟨_, rfl, u, rfl, for_it walk_str (fun i σ H1 => ∃ v2 v3, σ = [some (.str u), some (.ref L), v2, v3] ∧ Same H H1 ∧ RunsAt H1 L (runsOf (bs.take i)))
      ⟨none, none, rfl, fun b o e => by rw [upd_ne (ne_of_none e hL)]; exact e, [], upd_same, rfl, fun j a s e => by simp at e⟩ (fun _ _ _ _ _ => True.intro) ?_ ?_⟩
    · rintro i x σ H1 H2 hi ⟨v2, v3, rfl, s1, I⟩ ⟨e, c, hc, ex⟩
      subst e
      have hib : i < bs.length := by rw [hsz] at hi; exact hi
      obtain ⟨b, hb⟩ : ∃ b, bs[i]? = some b := ⟨_, List.getElem?_eq_getElem hib⟩
      have ecb : c = letterC b := by
        have h1 : u.cps.toList[i]? = some c := by simpa using hc
        rw [hu, List.getElem?_map, hb] at h1
        exact (Option.some.inj h1).symm
      rw [ecb, letterS_eq] at ex
      subst ex
      rw [tk1 hb, runsOf_snoc]
      have hlen2 : (runsOf (bs.take i)).length ≤ 999 := Nat.le_trans (runsOf_len _) (by rw [List.length_take]; omega)
      generalize runsOf (bs.take i) = acc at *
      refine ⟨_, rfl, rfl, _, rfl, ?_⟩
      have el : decide (V.str (letterS b) = V.str "n") = !b := by cases b <;> decide +kernel
      rw [el]
      refine kindIf b ?_
      obtain ⟨ts, hL2, hts, htv⟩ := I
      refine ⟨_, rfl, Nat.zero_le _, fun e he => ?_⟩
      have nLe : L ≠ e := ne_of_none hL2 he
      have s3 : Same H2 (upd H2 e (.lst [])) := fun b o e' => by rw [upd_ne (ne_of_none e' he)]; exact e'
      have I3 : RunsAt (upd H2 e (.lst [])) L acc := ⟨ts, s3 _ _ hL2, hts, fun i t s e1 e2 => s3 _ _ (htv i t s e1 e2)⟩
      have hL3 := s3 _ _ hL2
      have s03 := s1.trans s3
      have h3 : ∀ (i : Nat) (t : Addr) (s : Sec), ts[i]? = some t → acc[i]? = some s → upd H2 e (.lst []) t = some (.tup (secV s)) := fun i t s e1 e2 => s3 _ _ (htv i t s e1 e2)
      refine ⟨secsD acc, .list [], I3.dp, .lst (SqL.of upd_same) .nil, (shp_secsD acc).ok (by decide), shp_nil.ok (by decide), ?_⟩
      have happ : ∀ (H4 : Hp) (t : Addr), Same (upd H2 e (.lst [])) H4 → H4 t = none → RunsAt (upd (upd H4 t (.tup [.str (kindS b), .int 1])) L (.lst (ts.map V.ref ++ [.ref t]))) L (acc ++ [(b, 1)]) := fun H4 t s4 ht => by
        have nLt : L ≠ t := ne_of_none (s4 _ _ hL3) ht
        refine ⟨ts ++ [t], by rw [upd_same, List.map_append]; rfl, by rw [List.length_append, List.length_append, hts]; rfl, fun i a s e1 e2 => ?_⟩
        rcases snoc_get e1 with e1 | ⟨hi2, rfl⟩
        · have hlt := (List.getElem?_eq_some_iff.mp e1).1
          rw [List.getElem?_append_left (by rw [← hts]; exact hlt)] at e2
          have q := s4 _ _ (h3 i a s e1 e2)
          rw [upd_ne (ne_of q (s4 _ _ hL3) (by intro z; cases z)), upd_ne (ne_of_none q ht)]
          exact q
        · rcases snoc_get e2 with e2 | ⟨_, rfl⟩
          · have := (List.getElem?_eq_some_iff.mp e2).1
            omega
          · rw [upd_ne nLt.symm, upd_same]
            rfl
      cases hl : acc.getLast? with
      | none =>
        have ea : acc = [] := List.getLast?_eq_none_iff.mp hl
        subst ea
        have er : rstep [] b = [(b, 1)] := rfl
        rw [er]
        refine ⟨_, rfl, iteF ?_⟩
        refine iteF ?_
        refine ⟨_, rfl, .inl ⟨rfl, _, SqL.of hL3⟩, _, rfl, by show 2 ≤ sizeLine; decide, fun t ht => ?_⟩
        have nLt : L ≠ t := ne_of_none hL3 ht
        refine ⟨L, _, .ref t, rfl, rfl, by rw [upd_ne nLt]; exact hL3, by rw [List.length_map, hts]; exact small1000 (by simp), ?_⟩
        refine ⟨_, _, rfl, fun b' o e' => ?_, happ _ t (fun _ _ z => z) ht⟩
        rw [upd_ne (ne_of_none e' hL), upd_ne (ne_of_none (s03 _ _ e') ht)]
        exact s03 _ _ e'
      | some r =>
        obtain ⟨k', n⟩ := r
        obtain ⟨acc', ea⟩ := List.getLast?_eq_some_iff.mp hl
        subst ea
        obtain ⟨ts', t0, ets, hl'⟩ := snoc_of (l := ts) (m := acc'.length) (by rw [hts]; simp)
        subst ets
        have hL4 : upd H2 e (.lst []) L = some (.lst (ts'.map V.ref ++ [V.ref t0])) := by rw [hL3, List.map_append]; rfl
        have ht0 := h3 acc'.length t0 (k', n) (by rw [← hl']; simp) (by simp)
        refine ⟨_, rfl, ?_⟩
        rw [show (!PyData.eqv (secsD (acc' ++ [(k', n)])) (.list [])) = true by cases acc' <;> rfl]
        refine iteT ?_
        refine ⟨_, rfl, _, rfl, L, _, _, .ref t0, rfl, rfl, SqL.of hL4, atI_last _ _, t0, _, _, _, rfl, rfl, SqT.of ht0, rfl, _, rfl, rfl, _, rfl, ?_⟩
        rw [kindS_inj]
        by_cases hk : k' = b
        · rw [decide_eq_true hk]
          refine iteT ?_
          have er : rstep (acc' ++ [(k', n)]) b = acc' ++ [(k', n + 1)] := by
            unfold rstep
            rw [hl]
            simp [hk]
          rw [er]
          refine ⟨_, rfl, _, rfl, _, rfl, L, _, _, .ref t0, rfl, rfl, SqL.of hL4, atI_last _ _, t0, _, _, _, rfl, rfl, SqT.of ht0, rfl, _, _, rfl, rfl, by show 2 ≤ sizeLine; decide, fun t ht => ?_⟩
          have nLt : L ≠ t := ne_of_none hL3 ht
          refine ⟨_, rfl, _, rfl, L, _, _, ts'.length, rfl, rfl, by rw [upd_ne nLt]; exact hL4, ixN_last (by simp), ?_⟩
          rw [set_last _ _ _ (by simp)]
          refine ⟨_, _, rfl, fun b' o e' => ?_, ts' ++ [t], by rw [upd_same, List.map_append]; rfl, by simp [hl'], fun i a s e1 e2 => ?_⟩
          · rw [upd_ne (ne_of_none e' hL), upd_ne (ne_of_none (s03 _ _ e') ht)]
            exact s03 _ _ e'
          · rcases snoc_get e1 with e1 | ⟨hi2, rfl⟩
            · have hlt := (List.getElem?_eq_some_iff.mp e1).1
              rw [List.getElem?_append_left (by rw [← hl']; exact hlt)] at e2
              have q := h3 i a s (by rw [List.getElem?_append_left hlt]; exact e1) (by rw [List.getElem?_append_left (by rw [← hl']; exact hlt)]; exact e2)
              rw [upd_ne (ne_of q hL3 (by intro z; cases z)), upd_ne (ne_of_none q ht)]
              exact q
            · rcases snoc_get e2 with e2 | ⟨_, rfl⟩
              · have := (List.getElem?_eq_some_iff.mp e2).1
                omega
              · rw [upd_ne nLt.symm, upd_same, ← hk]
                rfl
        · rw [decide_eq_false hk]
          refine iteF ?_
          have er : rstep (acc' ++ [(k', n)]) b = acc' ++ [(k', n)] ++ [(b, 1)] := by
            unfold rstep
            rw [hl]
            simp [hk]
          rw [er]
          refine ⟨_, rfl, .inl ⟨rfl, _, SqL.of hL3⟩, _, rfl, by show 2 ≤ sizeLine; decide, fun t ht => ?_⟩
          have nLt : L ≠ t := ne_of_none hL3 ht
          refine ⟨L, _, .ref t, rfl, rfl, by rw [upd_ne nLt]; exact hL3, by rw [List.length_map, hts]; exact small1000 (by omega), ?_⟩
          refine ⟨_, _, rfl, fun b' o e' => ?_, happ _ t (fun _ _ z => z) ht⟩
          rw [upd_ne (ne_of_none e' hL), upd_ne (ne_of_none (s03 _ _ e') ht)]
          exact s03 _ _ e'
    · rintro σ H1 ⟨v2, v3, rfl, s1, I⟩
      rw [hsz, List.take_length] at I
      exact ⟨_, rfl, k H1 L s1 hL I⟩
end
end Sl

set_option Elab.async false
set_option linter.all false
set_option maxRecDepth 100000
set_option maxHeartbeats 1000000
namespace Sl
open PySem PySem.Spec L2 OwnR LamX
/-! ### a list of new tuples -/
def TupsAt (H : Hp) (a : Addr) (vss : List (List V)) : Prop := ∃ ts : List Addr, H a = some (.lst (ts.map V.ref)) ∧ ts.length = vss.length ∧ ∀ (i : Nat) (t : Addr) (v : List V), ts[i]? = some t → vss[i]? = some v → H t = some (.tup v)
theorem tups_push {H : Hp} {a : Addr} {ts : List Addr} {vss : List (List V)} (h1 : H a = some (.lst (ts.map V.ref))) (h2 : ts.length = vss.length) (h3 : ∀ (i : Nat) (t : Addr) (v : List V), ts[i]? = some t → vss[i]? = some v → H t = some (.tup v)) {t : Addr} (ht : H t = none) (v : List V) :
    TupsAt (upd (upd H t (.tup v)) a (.lst (ts.map V.ref ++ [.ref t]))) a (vss ++ [v]) := by
  have nat : a ≠ t := ne_of_none h1 ht
  refine ⟨ts ++ [t], by rw [upd_same, List.map_append]; rfl, by rw [List.length_append, List.length_append, h2]; rfl, fun i b s e1 e2 => ?_⟩
  rcases snoc_get e1 with e1 | ⟨hi2, rfl⟩
  · have hlt := (List.getElem?_eq_some_iff.mp e1).1
    rw [List.getElem?_append_left (by rw [← h2]; exact hlt)] at e2
    have q := h3 i b s e1 e2
    rw [upd_ne (ne_of q h1 (by intro z; cases z)), upd_ne (ne_of_none q ht)]
    exact q
  · rcases snoc_get e2 with e2 | ⟨_, rfl⟩
    · have := (List.getElem?_eq_some_iff.mp e2).1
      omega
    · rw [upd_ne nat.symm, upd_same]
theorem TupsAt.keep {H H' : Hp} {r a : Addr} {vss : List (List V)} {xs : List V} (h : TupsAt H a vss) (k : KeepB r H H') (n : a ≠ r) (hr : H r = some (.lst xs)) : TupsAt H' a vss := by
  obtain ⟨ts, h1, h2, h3⟩ := h
  exact ⟨ts, k _ _ h1 n, h2, fun i t v e1 e2 => k _ _ (h3 i t v e1 e2) (ne_of (h3 i t v e1 e2) hr (by intro z; cases z))⟩
theorem TupsAt.same {H H' : Hp} {a : Addr} {vss : List (List V)} (h : TupsAt H a vss) (k : Same H H') : TupsAt H' a vss := by
  obtain ⟨ts, h1, h2, h3⟩ := h
  exact ⟨ts, k _ _ h1, h2, fun i t v e1 e2 => k _ _ (h3 i t v e1 e2)⟩
theorem tups_nil {H : Hp} {a : Addr} (h : H a = some (.lst [])) : TupsAt H a [] := ⟨[], h, rfl, fun i t v e => by simp at e⟩
end Sl

set_option Elab.async false
set_option linter.all false
set_option maxRecDepth 100000
set_option maxHeartbeats 1000000
namespace Sl
open PySem PySem.Spec L2 OwnR LamX
/-- all that is no list stays, and what r is not -/
theorem KeepB.notlst {r : Addr} {H H' : Hp} {xs : List V} (k : KeepB r H H') (hr : H r = some (.lst xs)) : ∀ b o, H b = some o → (∀ ys, o ≠ .lst ys) → H' b = some o := fun b o e n => k b o e (ne_of e hr (n _))
theorem RoadAt.keepB {CR : Addr} {H H' : Hp} {p r : Addr} {secs : List Sec} {xs : List V} (h : RoadAt CR H p secs) (k : KeepB r H H') (hr : H r = some (.lst xs)) : RoadAt CR H' p secs := by
  obtain ⟨dx, t, u, h1, ⟨ts, a1, a2, a3⟩, h3⟩ := h
  have nl := k.notlst hr
  exact ⟨dx, t, u, nl _ _ h1 fun _ z => (nomatch z), ⟨ts, nl _ _ a1 fun _ z => (nomatch z), a2, fun i t s e1 e2 => nl _ _ (a3 i t s e1 e2) fun _ z => nomatch z⟩, h3⟩
theorem RunsAt.keepB {H H' : Hp} {p r : Addr} {secs : List Sec} {xs : List V} (h : RunsAt H p secs) (k : KeepB r H H') (n : p ≠ r) (hr : H r = some (.lst xs)) : RunsAt H' p secs := by
  obtain ⟨ts, a1, a2, a3⟩ := h
  have nl := k.notlst hr
  exact ⟨ts, k _ _ a1 n, a2, fun i t s e1 e2 => nl _ _ (a3 i t s e1 e2) fun _ z => nomatch z⟩
end Sl

set_option Elab.async false
set_option linter.all false
set_option maxRecDepth 100000
set_option maxHeartbeats 1000000
namespace Sl
open PySem PySem.Spec L2 OwnR LamX
/-! ### the law's own overtakings -/
theorem posL_get {n : Str} {l : List Str} (nd : l.Nodup) {i : Nat} (h : l[i]? = some n) : posL n l = i := by
  have hm := List.mem_of_getElem? h
  exact nd_ix nd (posL_at hm) h
theorem drop_mem {l : List Str} (nd : l.Nodup) {o : Str} (ho : o ∈ l) (i : Nat) : decide (o ∈ l.drop (i + 1)) = decide (i < posL o l) := by
  rw [decide_eq_decide]
  constructor
  · intro h
    obtain ⟨j, hj⟩ := List.mem_iff_getElem?.mp h
    rw [List.getElem?_drop] at hj
    rw [posL_get nd hj]
    omega
  · intro h
    have e := posL_at ho
    refine List.mem_iff_getElem?.mpr ⟨posL o l - (i + 1), ?_⟩
    rw [List.getElem?_drop, show i + 1 + (posL o l - (i + 1)) = posL o l by omega]
    exact e
theorem ovSec_same {l : List Str} (nd : l.Nodup) (k : Nat) : ∀ i, ovSec l l k i = []
  | 0 => rfl
  | i + 1 => by
    rw [ovSec_succ, ovSec_same nd k i, List.nil_append]
    unfold ovMid
    cases hn : l[i]? with
    | none => rfl
    | some n =>
      show ovIn l k i n (l.take (posL n l)) = []
      rw [posL_get nd hn]
      unfold ovIn
      rw [List.map_eq_nil_iff, List.filter_eq_nil_iff]
      intro o ho
      obtain ⟨j, hj⟩ := List.mem_iff_getElem?.mp ho
      have hji : j < i := by
        have := (List.getElem?_eq_some_iff.mp hj).1
        rw [List.length_take] at this
        omega
      rw [List.getElem?_take_of_lt hji] at hj
      rw [drop_mem nd (List.mem_of_getElem? hj), posL_get nd hj]
      simp
      omega
def OrdsAt (H : Hp) (a : Addr) (secs : List Sec) (cars : List Car) : Prop := ∃ os : List Addr, H a = some (.lst (os.map V.ref)) ∧ os.length = secs.length + 1 ∧ ∀ (k : Nat) (d : Addr), os[k]? = some d → H d = some (.lst ((plcC secs cars k).ord.map V.str))
end Sl

set_option Elab.async false
set_option linter.all false
set_option maxRecDepth 100000
set_option maxHeartbeats 1000000
namespace Sl
open PySem PySem.Spec L2 OwnR LamX
/-! ### the law's own driver: rows of a section, wide or narrow -/
def wrow (wd : Bool) (fr : Str → Int) (acc : List (RowT Str)) (n : Str) : RowT Str := if wd then (n, fr n, none) else fnext fr acc n
def wrows (wd : Bool) (fr : Str → Int) (ord : List Str) : List (RowT Str) := ord.foldl (fun acc n => acc ++ [wrow wd fr acc n]) []
theorem wrow_name (wd : Bool) (fr : Str → Int) (acc : List (RowT Str)) (n : Str) : (wrow wd fr acc n).1 = n := by
  unfold wrow
  split
  · rfl
  · exact fnext_name fr acc n
theorem wrows_snoc (wd : Bool) (fr : Str → Int) (ord : List Str) (n : Str) : wrows wd fr (ord ++ [n]) = wrows wd fr ord ++ [wrow wd fr (wrows wd fr ord) n] := by
  unfold wrows
  rw [List.foldl_append]
  rfl
theorem wrows_narrow (fr : Str → Int) (ord : List Str) : wrows false fr ord = foll fr ord := rfl
theorem wrows_wide (fr : Str → Int) (ord : List Str) : wrows true fr ord = ord.map fun n => (n, fr n, none) := by
  have h : ∀ (l : List Str) (acc : List (RowT Str)), l.foldl (fun acc n => acc ++ [wrow true fr acc n]) acc = acc ++ l.map fun n => (n, fr n, none) := by
    intro l
    induction l with
    | nil => intro acc; simp
    | cons n r ih =>
      intro acc
      rw [List.foldl_cons, ih, List.map_cons, List.append_assoc]
      rfl
  have := h ord []
  simpa [wrows] using this
theorem wrows_names (wd : Bool) (fr : Str → Int) (ord : List Str) : (wrows wd fr ord).map (·.1) = ord := by
  have h : ∀ (l : List Str) (acc : List (RowT Str)), (l.foldl (fun acc n => acc ++ [wrow wd fr acc n]) acc).map (·.1) = acc.map (·.1) ++ l := by
    intro l
    induction l with
    | nil => intro acc; simp
    | cons n r ih =>
      intro acc
      rw [List.foldl_cons, ih, List.map_append, List.append_assoc]
      simp [wrow_name]
  have := h ord []
  simpa [wrows] using this
theorem wrows_tick (pace : Str → Int) (p : Pl Str) (s : Sec) (nd : p.ord.Nodup) {n : Str} (hn : n ∈ p.ord) : ∃ x, look (wrows s.1 (freeP pace p s.2) p.ord) n = some x ∧ x.1 = (stepP pace p s).tk n := by
  obtain ⟨x, hx⟩ := look_some (acc := wrows s.1 (freeP pace p s.2) p.ord) (n := n) (by rw [wrows_names]; exact hn)
  refine ⟨x, hx, ?_⟩
  unfold stepP
  cases hw : s.1 with
  | true =>
    rw [hw, wrows_wide] at hx
    obtain ⟨i, hi⟩ := List.mem_iff_getElem?.mp hn
    have := look_get (acc := p.ord.map fun n => (n, freeP pace p s.2 n, none)) (by rw [List.map_map]; exact (List.map_id p.ord).symm ▸ nd) (i := i) (r := (n, freeP pace p s.2 n, none)) (by rw [List.getElem?_map, hi]; rfl)
    rw [this] at hx
    cases hx
    rfl
  | false =>
    rw [hw, wrows_narrow] at hx
    show x.1 = tickOf (foll (freeP pace p s.2) p.ord) n
    unfold tickOf
    rw [hx]
    rfl
theorem wrows_lead (pace : Str → Int) (p : Pl Str) (s : Sec) (n : Str) : leadOf (wrows s.1 (freeP pace p s.2) p.ord) n = leadP pace p s n := by
  unfold leadP
  cases hw : s.1 with
  | true =>
    rw [wrows_wide]
    show leadOf _ n = none
    unfold leadOf look
    cases q : (p.ord.map fun n => ((n, freeP pace p s.2 n, none) : RowT Str)).find? (fun r => decide (r.1 = n)) with
    | none => rfl
    | some r =>
      have hr := List.mem_of_find?_eq_some q
      obtain ⟨m, _, rfl⟩ := List.mem_map.mp hr
      rfl
  | false => rfl
def gOf (b : Str → List Int) (acc : List (RowT Str)) (n : Str) : List Int := b n ++ (match look acc n with
  | some x => [x.1]
  | none => [])
theorem gOf_nil (b : Str → List Int) : gOf b [] = b := by
  funext n
  unfold gOf
  rw [look_nil]
  exact List.append_nil _
theorem gOf_snoc (b : Str → List Int) (acc : List (RowT Str)) (r : RowT Str) (h : r.1 ∉ acc.map (·.1)) : (fun n => if n = r.1 then gOf b acc r.1 ++ [r.2.1] else gOf b acc n) = gOf b (acc ++ [r]) := by
  funext n
  show (if n = r.1 then gOf b acc r.1 ++ [r.2.1] else gOf b acc n) = _
  unfold gOf
  rw [look_snoc acc r n h]
  by_cases e : n = r.1
  · rw [if_pos e, if_pos e, look_none h, e]
    simp
  · rw [if_neg e, if_neg e]
theorem gOf_in {b : Str → List Int} {acc : List (RowT Str)} {n : Str} {x : Int × Option Str} (h : look acc n = some x) : gOf b acc n = b n ++ [x.1] := by
  unfold gOf
  rw [h]
def tkl (secs : List Sec) (cars : List Car) (i : Nat) (n : Str) : List Int := (List.range (i + 1)).map fun k => (plcC secs cars k).tk n
theorem tkl_succ (secs : List Sec) (cars : List Car) (i : Nat) (n : Str) : tkl secs cars (i + 1) n = tkl secs cars i n ++ [(plcC secs cars (i + 1)).tk n] := by
  unfold tkl
  rw [List.range_succ, List.map_append]
  rfl
theorem tkl_last (secs : List Sec) (cars : List Car) (i : Nat) (n : Str) : ∃ l, tkl secs cars i n = l ++ [(plcC secs cars i).tk n] := by
  unfold tkl
  exact ⟨(List.range i).map fun k => (plcC secs cars k).tk n, by rw [List.range_succ, List.map_append]; rfl⟩
/-- lists of numbers are no lists of names, none of references -/
theorem ints_str {l : List Int} {m : List Str} (h : l ≠ []) : (HO.lst (l.map V.int)) ≠ .lst (m.map V.str) := by
  intro z
  cases l with
  | nil => exact h rfl
  | cons a r =>
    cases m with
    | nil => cases z
    | cons b q => cases z
theorem ints_ref {l : List Int} {m : List Addr} (h : l ≠ []) : (HO.lst (l.map V.int)) ≠ .lst (m.map V.ref) := by
  intro z
  cases l with
  | nil => exact h rfl
  | cons a r =>
    cases m with
    | nil => cases z
    | cons b q => cases z
structure DrS (T : List (Addr × Str)) (H0 H : Hp) (secs : List Sec) (cars : List Car) (i : Nat) (g : Str → List Int) (TK PD OD LD : Addr) (ds os ls : List Addr) : Prop where
  ext : ExtN H0 H
  tabs : Tabs T H
  tk : ∃ kt, H TK = some (.dK kt) ∧ kt.map (·.1) = cars.map (fun c => (Sum.inr c.name : Key)) ∧ ∀ (q : Nat) (c : Car) (d : Addr), cars[q]? = some c → ds[q]? = some d → valV kt (Sum.inr c.name : Key) = some (.ref d)
  dl : ds.length = cars.length
  dv : ∀ (q : Nat) (c : Car) (d : Addr), cars[q]? = some c → ds[q]? = some d → H d = some (.lst ((g c.name).map V.int))
  gne : ∀ n, g n ≠ []
  dn : ds.Nodup
  dnew : ∀ d ∈ ds, New H0 d
  pd : ∃ kp, H PD = some (.dK kp) ∧ ∀ c ∈ cars, valV kp (Sum.inr c.name : Key) = some (.int c.pace)
  od : H OD = some (.lst (os.map V.ref))
  ol : os.length = i + 1
  ov : ∀ (k : Nat) (d : Addr), os[k]? = some d → H d = some (.lst ((plcC secs cars k).ord.map V.str))
  odn : New H0 OD
  ld : H LD = some (.lst (ls.map V.ref))
  ll : ls.length = i
  lv : ∀ (k : Nat) (d : Addr), ls[k]? = some d → ∃ kv, H d = some (.dK kv) ∧ ∀ n, valV kv (Sum.inr n : Key) = (ldrC secs cars k n).map V.str
  ldn : New H0 LD
  osl : ∀ d ∈ os, d ≠ LD
section
variable {T : List (Addr × Str)} {H0 H H' : Hp} {secs : List Sec} {cars : List Car} {i : Nat} {g : Str → List Int} {TK PD OD LD : Addr} {ds os ls : List Addr}
theorem DrS.step (D : DrS T H0 H secs cars i g TK PD OD LD ds os ls) (e : ExtN H H') (t : Tabs T H') : DrS T H0 H' secs cars i g TK PD OD LD ds os ls where
  ext := D.ext.trans e
  tabs := t
  tk := let ⟨kt, a, b⟩ := D.tk; ⟨kt, ExtN.dK e a, b⟩
  dl := D.dl
  dv := fun q c d h1 h2 => ExtN.lst e (D.dv q c d h1 h2)
  gne := D.gne
  dn := D.dn
  dnew := D.dnew
  pd := let ⟨kp, a, b⟩ := D.pd; ⟨kp, ExtN.dK e a, b⟩
  od := ExtN.lst e D.od
  ol := D.ol
  ov := fun k d h => ExtN.lst e (D.ov k d h)
  odn := D.odn
  ld := ExtN.lst e D.ld
  ll := D.ll
  lv := fun k d h => let ⟨kv, a, b⟩ := D.lv k d h; ⟨kv, ExtN.dK e a, b⟩
  ldn := D.ldn
  osl := D.osl
theorem DrS.congr (D : DrS T H0 H secs cars i g TK PD OD LD ds os ls) {g' : Str → List Int} (h : ∀ c ∈ cars, g c.name = g' c.name) (hn : ∀ n, g' n ≠ []) : DrS T H0 H secs cars i g' TK PD OD LD ds os ls :=
  { D with dv := fun q c d h1 h2 => by rw [← h c (List.mem_of_getElem? h1)]; exact D.dv q c d h1 h2, gne := hn }
/-- a tick is put behind a car's list -/
theorem DrS.tick (D : DrS T H0 H secs cars i g TK PD OD LD ds os ls) (nd : (names cars).Nodup) {q : Nat} {c : Car} {d : Addr} (hq : cars[q]? = some c) (hd : ds[q]? = some d) (x : Int) :
    DrS T H0 (upd H d (.lst ((g c.name).map V.int ++ [.int x]))) secs cars i (fun n => if n = c.name then g c.name ++ [x] else g n) TK PD OD LD ds os ls := by
  have hc := D.dv q c d hq hd
  have kl : ∀ b o, H b = some o → (∀ xs, o ≠ .lst xs) → upd H d (.lst ((g c.name).map V.int ++ [.int x])) b = some o := fun b o e n => by rw [upd_ne (ne_of e hc (n _))]; exact e
  have ks : ∀ b (m : List Str), H b = some (.lst (m.map V.str)) → upd H d (.lst ((g c.name).map V.int ++ [.int x])) b = some (.lst (m.map V.str)) := fun b m e => by rw [upd_ne (ne_of e hc (ints_str (D.gne _)).symm)]; exact e
  have kr : ∀ b (m : List Addr), H b = some (.lst (m.map V.ref)) → upd H d (.lst ((g c.name).map V.int ++ [.int x])) b = some (.lst (m.map V.ref)) := fun b m e => by rw [upd_ne (ne_of e hc (ints_ref (D.gne _)).symm)]; exact e
  have nw := D.dnew d (List.mem_of_getElem? hd)
  refine { D with ext := fun b o e n => ?_, tabs := ?_, tk := ?_, dv := ?_, gne := ?_, pd := ?_, od := kr _ _ D.od, ov := fun k b h => ks _ _ (D.ov k b h), ld := kr _ _ D.ld, lv := ?_ }
  · rw [upd_ne (nw b o e n)]
    exact D.ext b o e n
  · exact Tabs.keepL D.tabs kl
  · obtain ⟨kt, a, b⟩ := D.tk
    exact ⟨kt, kl _ _ a fun _ z => (nomatch z), b⟩
  · intro q' c' d' h1 h2
    by_cases e : d' = d
    · subst e
      have : q' = q := nd_ix D.dn h2 hd
      subst this
      rw [hq] at h1
      cases h1
      rw [upd_same]
      show _ = some (HO.lst ((if c.name = c.name then g c.name ++ [x] else g c.name).map V.int))
      rw [if_pos rfl, List.map_append]
      rfl
    · rw [upd_ne e]
      have hne : ¬ c'.name = c.name := fun z => by
        have a1 : (names cars)[q']? = some c.name := by unfold names; rw [List.getElem?_map, h1]; exact congrArg some z
        have a2 : (names cars)[q]? = some c.name := by unfold names; rw [List.getElem?_map, hq]; rfl
        have := nd_ix nd a1 a2
        subst this
        rw [hd] at h2
        exact e (Option.some.inj h2).symm
      show _ = some (HO.lst ((if c'.name = c.name then g c.name ++ [x] else g c'.name).map V.int))
      rw [if_neg hne]
      exact D.dv q' c' d' h1 h2
  · intro n
    show (if n = c.name then g c.name ++ [x] else g n) ≠ []
    split
    · simp
    · exact D.gne n
  · obtain ⟨kp, a, b⟩ := D.pd
    exact ⟨kp, kl _ _ a fun _ z => (nomatch z), b⟩
  · intro k b h
    obtain ⟨kv, a, e⟩ := D.lv k b h
    exact ⟨kv, kl _ _ a fun _ z => (nomatch z), e⟩
theorem DrS.tickKeep (D : DrS T H0 H secs cars i g TK PD OD LD ds os ls) {q : Nat} {c : Car} {d : Addr} (hq : cars[q]? = some c) (hd : ds[q]? = some d) (o' : HO) :
    (∀ b o, H b = some o → (∀ xs, o ≠ .lst xs) → upd H d o' b = some o) ∧ ∀ b (m : List Str), H b = some (.lst (m.map V.str)) → upd H d o' b = some (.lst (m.map V.str)) := by
  have hc := D.dv q c d hq hd
  exact ⟨fun b o e n => by rw [upd_ne (ne_of e hc (n _))]; exact e, fun b m e => by rw [upd_ne (ne_of e hc (ints_str (D.gne _)).symm)]; exact e⟩
/-- the section's order and leaders are put behind the lists -/
theorem DrS.put (D : DrS T H0 H secs cars i g TK PD OD LD ds os ls) {o' l' : Addr} {kv : List (Key × V)} (ho : H o' = some (.lst ((plcC secs cars (i + 1)).ord.map V.str))) (no : o' ≠ LD) (hl : H l' = some (.dK kv)) (hkv : ∀ n, valV kv (Sum.inr n : Key) = (ldrC secs cars i n).map V.str) :
    DrS T H0 (upd (upd H OD (.lst (os.map V.ref ++ [.ref o']))) LD (.lst (ls.map V.ref ++ [.ref l']))) secs cars (i + 1) g TK PD OD LD ds (os ++ [o']) (ls ++ [l']) := by
  have one : os ≠ [] := fun z => by have := D.ol; rw [z] at this; simp at this
  have refs_str : ∀ (m : List Str), HO.lst (m.map V.str) ≠ .lst (os.map V.ref) := fun m z => by
    cases os with
    | nil => exact one rfl
    | cons a r =>
      cases m with
      | nil => cases z
      | cons b q => cases z
  have nOL : OD ≠ LD := fun z => by
    have h1 := D.od
    have h2 := D.ld
    rw [z, h2] at h1
    have h3 : ls.map V.ref = os.map V.ref := by
      have := Option.some.inj h1
      injection this
    have := congrArg List.length h3
    rw [List.length_map, List.length_map, D.ol, D.ll] at this
    omega
  have kl : ∀ b o, H b = some o → (∀ xs, o ≠ .lst xs) → upd (upd H OD (.lst (os.map V.ref ++ [.ref o']))) LD (.lst (ls.map V.ref ++ [.ref l'])) b = some o := fun b o e n => by
    rw [upd_ne (ne_of e D.ld (n _)), upd_ne (ne_of e D.od (n _))]
    exact e
  have kd : ∀ (q : Nat) (c : Car) (d : Addr), cars[q]? = some c → ds[q]? = some d → upd (upd H OD (.lst (os.map V.ref ++ [.ref o']))) LD (.lst (ls.map V.ref ++ [.ref l'])) d = some (.lst ((g c.name).map V.int)) := fun q c d h1 h2 => by
    have e := D.dv q c d h1 h2
    rw [upd_ne (ne_of e D.ld (ints_ref (D.gne _))), upd_ne (ne_of e D.od (ints_ref (D.gne _)))]
    exact e
  refine { D with ext := fun b o e n => ?_, tabs := Tabs.keepL D.tabs kl, tk := ?_, dv := kd, pd := ?_, od := ?_, ol := by rw [List.length_append, D.ol]; rfl, ov := ?_, ld := ?_, ll := by rw [List.length_append, D.ll]; rfl, lv := ?_, osl := ?_ }
  · rw [upd_ne (D.ldn b o e n), upd_ne (D.odn b o e n)]
    exact D.ext b o e n
  · obtain ⟨kt, a, b⟩ := D.tk
    exact ⟨kt, kl _ _ a fun _ z => (nomatch z), b⟩
  · obtain ⟨kp, a, b⟩ := D.pd
    exact ⟨kp, kl _ _ a fun _ z => (nomatch z), b⟩
  · rw [upd_ne nOL, upd_same, List.map_append]
    rfl
  · intro k d h
    rcases snoc_get h with h | ⟨hk, rfl⟩
    · have e := D.ov k d h
      rw [upd_ne (D.osl d (List.mem_of_getElem? h)), upd_ne (ne_of e D.od (refs_str _))]
      exact e
    · rw [D.ol] at hk
      subst hk
      rw [upd_ne no, upd_ne (ne_of ho D.od (refs_str _))]
      exact ho
  · rw [upd_same, List.map_append]
    rfl
  · intro k d h
    rcases snoc_get h with h | ⟨hk, rfl⟩
    · obtain ⟨kv', a, e⟩ := D.lv k d h
      exact ⟨kv', kl _ _ a fun _ z => (nomatch z), e⟩
    · rw [D.ll] at hk
      subst hk
      exact ⟨kv, kl _ _ hl fun _ z => (nomatch z), hkv⟩
  · intro d hd
    rcases List.mem_append.mp hd with hd | hd
    · exact D.osl d hd
    · rw [List.mem_singleton.mp hd]
      exact no
end
end Sl

set_option Elab.async false
set_option linter.all false
set_option maxRecDepth 100000
set_option maxHeartbeats 1000000
namespace Sl
open PySem PySem.Spec L2 OwnR LamX
def nDriven : List Str := ["_law_sections_here", "_law_cars", "_law_order", "_law_car", "_law_ticks", "_law_paces", "_law_orders", "_law_leaders", "_law_name", "_law_start", "_law_pace", "_law_kind", "_law_length", "_law_free", "_law_led", "_law_ahead", "_law_leave"]
theorem scDriven : FnScope nDriven ["_law_sections_here", "_law_cars"] (defScope sDriven) := ⟨rfl, rfl, rfl, by decide +kernel, rfl, by decide +kernel, by decide +kernel⟩
def qDriven : Str := ("_law_driven" : Str) ++ (".<locals>." : Str) ++ ("<lambda>" : Str)
theorem DrS.nOL {T : List (Addr × Str)} {H0 H : Hp} {secs : List Sec} {cars : List Car} {i : Nat} {g : Str → List Int} {TK PD OD LD : Addr} {ds os ls : List Addr} (D : DrS T H0 H secs cars i g TK PD OD LD ds os ls) : OD ≠ LD := fun z => by
  have h1 := D.od
  have h2 := D.ld
  rw [z, h2] at h1
  have h3 : ls.map V.ref = os.map V.ref := by
    have := Option.some.inj h1
    injection this
  have := congrArg List.length h3
  rw [List.length_map, List.length_map, D.ol, D.ll] at this
  omega
theorem DrS.putStr {T : List (Addr × Str)} {H0 H : Hp} {secs : List Sec} {cars : List Car} {i : Nat} {g : Str → List Int} {TK PD OD LD : Addr} {ds os ls : List Addr} (D : DrS T H0 H secs cars i g TK PD OD LD ds os ls) {b : Addr} {m : List Str} (h : H b = some (.lst (m.map V.str))) (n : b ≠ LD) (x y : HO) :
    upd (upd H OD x) LD y b = some (.lst (m.map V.str)) := by
  have one : os ≠ [] := fun z => by have := D.ol; rw [z] at this; simp at this
  rw [upd_ne n, upd_ne (ne_of h D.od fun z => ?_)]
  · exact h
  · cases os with
    | nil => exact one rfl
    | cons a r =>
      cases m with
      | nil => cases z
      | cons b q => cases z
theorem DrS.dict {T : List (Addr × Str)} {H0 H : Hp} {secs : List Sec} {cars : List Car} {i : Nat} {g : Str → List Int} {TK PD OD LD G : Addr} {ds os ls : List Addr} {kG : List (Key × V)} (D : DrS T H0 H secs cars i g TK PD OD LD ds os ls) (hG : H G = some (.dK kG)) (n1 : TK ≠ G) (n2 : PD ≠ G) (n3 : ∀ d ∈ ls, d ≠ G) (nw : New H0 G) (x : List (Key × V)) :
    DrS T H0 (upd H G (.dK x)) secs cars i g TK PD OD LD ds os ls := by
  have kl : ∀ b xs, H b = some (.lst xs) → upd H G (.dK x) b = some (.lst xs) := fun b xs e => by rw [upd_ne (ne_of e hG (by intro z; cases z))]; exact e
  refine { D with ext := fun b o e n => ?_, tabs := fun p hp => ?_, tk := ?_, dv := fun q c d h1 h2 => kl _ _ (D.dv q c d h1 h2), pd := ?_, od := kl _ _ D.od, ov := fun k d h => kl _ _ (D.ov k d h), ld := kl _ _ D.ld, lv := fun k d h => ?_ }
  · rw [upd_ne (nw b o e n)]
    exact D.ext b o e n
  · obtain ⟨ps, z1, z2, z3⟩ := D.tabs p hp
    refine ⟨ps, by rw [upd_ne (ne_of z1 hG (by intro z; cases z))]; exact z1, z2, fun pos cv hcv => ?_⟩
    obtain ⟨cc, y1, y2⟩ := z3 pos cv hcv
    exact ⟨cc, y1, by rw [upd_ne (ne_of y2 hG (by intro z; unfold CodeO at z; cases z))]; exact y2⟩
  · obtain ⟨kt, a, b⟩ := D.tk
    exact ⟨kt, by rw [upd_ne n1]; exact a, b⟩
  · obtain ⟨kp, a, b⟩ := D.pd
    exact ⟨kp, by rw [upd_ne n2]; exact a, b⟩
  · obtain ⟨kv, a, b⟩ := D.lv k d h
    exact ⟨kv, by rw [upd_ne (n3 d (List.mem_of_getElem? h))]; exact a, b⟩
theorem same_new {H : Hp} {p : Addr} (h : H p = none) (o : HO) : Same H (upd H p o) := fun b x e => by rw [upd_ne (ne_of_none e h)]; exact e
theorem sort_pairs {cars : List Car} {ts : List Addr} (c2 : ts.length = cars.length) (nd : (names cars).Nodup) : ∃ sp : List (Car × Addr), (isort ((cars.map (·.start)).zip (ts.map V.ref))).map (·.2) = sp.map (fun q => V.ref q.2) ∧ (∀ q ∈ sp, q ∈ cars.zip ts) ∧ sp.map (fun q => q.1.name) = (pl0 cars).ord := by
  refine ⟨sortBy (fun q : Car × Addr => q.1.start) (cars.zip ts), ?_, fun q hq => ?_, ?_⟩
  · have e1 : (cars.map (·.start)).zip (ts.map V.ref) = ((cars.zip ts).map fun x => (x.1.start, x)).map fun q => (q.1, V.ref q.2.2) := by
      rw [List.zip_map, List.map_map]
      rfl
    rw [e1, isort_map (fun q : Car × Addr => V.ref q.2), List.map_map]
    unfold sortBy
    rw [List.map_map]
    rfl
  · exact (sortBy_perm _ _).mem_iff.mp hq
  · have e2 : names cars = (cars.zip ts).map fun q => q.1.name := by
      have : (cars.zip ts).map Prod.fst = cars := List.map_fst_zip (by omega)
      unfold names
      conv => lhs; rw [← this]
      rw [List.map_map]
      rfl
    show _ = sortBy (startOf cars) (names cars)
    rw [e2]
    exact (sortBy_map (fun q : Car × Addr => q.1.name) (fun q => q.1.start) (startOf cars) (cars.zip ts) fun q hq => startOf_car nd (List.of_mem_zip hq).1).symm
section
variable {P : Program} {w : World} {K : PySem.W.Frag} {mg : Str → Option Value} {base : Heap}
theorem keys_none {kt : List (Key × V)} {k : Key} (h : k ∉ kt.map (·.1)) : valV kt k = none := by
  induction kt with
  | nil => rfl
  | cons a l ih =>
    have hne : ¬ a.1 = k := fun z => h (by rw [← z]; exact List.mem_cons_self)
    obtain ⟨a1, a2⟩ := a
    rw [valV_neg hne]
    exact ih fun z => h (List.mem_cons_of_mem _ z)
theorem keys_snoc {kt : List (Key × V)} {cars : List Car} {j : Nat} {c : Car} {v : V} (h : kt.map (·.1) = (cars.take j).map (fun c => (Sum.inr c.name : Key))) (nd : (names cars).Nodup) (hc : cars[j]? = some c) : (putK kt (Sum.inr c.name : Key) v).map (·.1) = (cars.take (j + 1)).map (fun c => (Sum.inr c.name : Key)) := by
  have hn : valV kt (Sum.inr c.name : Key) = none := by
    refine keys_none ?_
    rw [h]
    intro z
    obtain ⟨d, hd, e⟩ := List.mem_map.mp z
    exact take_new nd hc (by rw [← Sum.inr.inj e]; exact List.mem_map_of_mem hd)
  rw [putK_new _ hn, List.map_append, h, tk1 hc, List.map_append]
  rfl
def TksAt (H : Hp) (a : Addr) (secs : List Sec) (cars : List Car) : Prop := ∃ kt, H a = some (.dK kt) ∧ kt.map (·.1) = cars.map (fun c => (Sum.inr c.name : Key)) ∧ ∀ c ∈ cars, ∃ d, valV kt (Sum.inr c.name : Key) = some (.ref d) ∧ H d = some (.lst ((tkl secs cars secs.length c.name).map V.int))
def LdsAt (H : Hp) (a : Addr) (secs : List Sec) (cars : List Car) : Prop := ∃ ls : List Addr, H a = some (.lst (ls.map V.ref)) ∧ ls.length = secs.length ∧ ∀ (k : Nat) (d : Addr), ls[k]? = some d → ∃ kv, H d = some (.dK kv) ∧ ∀ n, valV kv (Sum.inr n : Key) = (ldrC secs cars k n).map V.str
def spDriven (T : List (Addr × Str)) : Sp := fun vs H Q _ => ∃ (s a : Addr) (secs : List Sec) (cars : List Car), vs = [.ref s, .ref a] ∧ RunsAt H s secs ∧ CarsAt H a cars ∧ SecsOk secs ∧ CarsOk cars ∧ Tabs T H ∧
  ∀ H' t tk od ld, ExtN H H' → Tabs T H' → H' t = some (.tup [.ref tk, .ref od, .ref ld]) → TksAt H' tk secs cars → OrdsAt H' od secs cars → LdsAt H' ld secs cars → Q (.ref t) H'
theorem ok_driven {f c Pt : Addr} {fd : FuncData} {T : List (Addr × Str)} (F : FbC K mg "_law_driven" sDriven ["_law_sections_here", "_law_cars"] f fd c) (M : Mg mg) (TB : TabB base mg c Pt) (hm : (Pt, qDriven) ∈ T) (hu : ∀ p ∈ T, p.1 = Pt → p.2 = qDriven) :
    FnOk P w K mg base CX0 3 f fd ["_law_sections_here", "_law_cars"] (spDriven T) := by
  refine F.fn.ok scDriven (fun vs H Q E h => ?_) (fun A outer s H vs Q E hr h => ?_)
  · obtain ⟨s, a, secs, cars, rfl, _⟩ := h
    rfl
  · obtain ⟨sa, ca, secs, cars, rfl, hS, hC, SO, CO, hT, k⟩ := h
    have nd := scDriven.nd
    have hc1 := hu_of hr
    refine ⟨_, pss_cons (ps_setLc (i := 2) (own := [("_law_car", 3)]) (g := gName 3) (tt := tYes) (te := tOp (rIxT K) (tVar 3) (tC (.int 0))) (by rfl) nd rfl rfl (sw_true rfl rfl rfl (by decide +kernel)) (pi_list (pe_sortLam (par := "_law_car") (r := keyItem K 1) hr TB rfl hm hu (by rfl) M.sorted (lamP_by (sc := defScope sDriven) (by decide +kernel)) (pv 1) (pk_item (lamP_by (sc := defScope sDriven) (by decide +kernel)) (by decide)))) (blkOk_by (N := nDriven) (sc := defScope sDriven) (by decide +kernel))
        (fun _ _ _ _ _ => pg_name (i := 3) nd rfl (Or.inl rfl)) (fun _ _ _ _ _ => pts_nil) (fun _ _ _ _ _ => pe_ix (r := rIxT K) ix_tup (pv 3) pe_int (fun _ _ => rfl)))
      (pss_cons (ps_asg (pe_tup (pa_cons pe_dnewK (pa_cons pe_dnewK (pa_cons (pe_lst (pa_cons (pe_callTy call_list_of (by rfl) M.list (by decide +kernel) (pa_cons (pv 2) pa_nil)) pa_nil)) (pa_cons (pe_lst pa_nil) pa_nil))))) (pg_tup rfl (pgs_cons (pg_name (i := 4) nd rfl (.inl rfl)) (pgs_cons (pg_name (i := 5) nd rfl (.inl rfl)) (pgs_cons (pg_name (i := 6) nd rfl (.inl rfl)) (pgs_cons (pg_name (i := 7) nd rfl (.inl rfl)) pgs_nil))))))
      (pss_cons (ps_for PassesOwn.never rfl (pi_tup (pv 1)) (pg_tup rfl (pgs_cons (pg_name (i := 8) nd rfl (.inl rfl)) (pgs_cons (pg_name (i := 9) nd rfl (.inl rfl)) (pgs_cons (pg_name (i := 10) nd rfl (.inl rfl)) pgs_nil))))
        (pss_one (ps_asg (pe_tup (pa_cons (pe_lst (pa_cons (pv 9) pa_nil)) (pa_cons (pv 10) pa_nil))) (pg_tup rfl (pgs_cons (pg_sub (pv 4) (pv 8) (set_dict hc1)) (pgs_cons (pg_sub (pv 5) (pv 8) (set_dict hc1)) pgs_nil))))))
      (pss_cons (ps_for PassesOwn.never rfl (pi_list (pv 0)) (pg_tup rfl (pgs_cons (pg_name (i := 11) nd rfl (.inl rfl)) (pgs_cons (pg_name (i := 12) nd rfl (.inl rfl)) pgs_nil)))
        (pss_cons (ps_asg (pe_tup (pa_cons pe_dnewK (pa_cons pe_dnewK (pa_cons pe_non pa_nil)))) (pg_tup rfl (pgs_cons (pg_name (i := 13) nd rfl (.inr rfl)) (pgs_cons (pg_name (i := 14) nd rfl (.inl rfl)) (pgs_cons (pg_name (i := 15) nd rfl (.inl rfl)) pgs_nil)))))
        (pss_cons (ps_for PassesOwn.never rfl (pi_list (pv 2)) (pg_name (i := 8) nd rfl (.inl rfl))
          (pss_one (ps_dput hc1 (pv 13) (pv 8) (pe_op op_add (pe_ix ix_list (pe_dget hc1 (pv 4) (pv 8) (fun _ _ => rfl)) (pe_un un_neg pe_int) (fun _ _ => rfl)) (pe_op op_mul (pe_dget hc1 (pv 5) (pv 8) (fun _ _ => rfl)) (pv 12))) rfl)))
        (pss_cons (ps_for PassesOwn.never rfl (pi_list (pv 2)) (pg_name (i := 8) nd rfl (.inl rfl))
          (pss_cons (ps_set (i := 16) nd rfl (.inl rfl) (pe_dget hc1 (pv 13) (pv 8) (fun _ _ => rfl)))
          (pss_cons (ps_if (PW.pt (pw_and (pt_cmpR op_eq (pv 11) pe_str (nomark _)) (pw_and (pt_cmp (pc_notN (pv 15))) (pw_and1 (pt_cmpR op_gt (pe_ix ix_list (pe_dget hc1 (pv 4) (pv 15) (fun _ _ => rfl)) (pe_un un_neg pe_int) (fun _ _ => rfl)) (pv 16) (nomark _))))))
            (pss_cons (ps_set (i := 16) nd rfl (.inl rfl) (pe_ix ix_list (pe_dget hc1 (pv 4) (pv 15) (fun _ _ => rfl)) (pe_un un_neg pe_int) (fun _ _ => rfl)))
            (pss_one (ps_dput hc1 (pv 14) (pv 8) (pe_dget2 hc1 (pv 14) (pv 15) (pv 15) ⟨rfl, rfl, rfl, rfl⟩) rfl))) pss_nil)
          (pss_cons (ps_expr (pe_bm PySem.F.plainAttrs_list PySem.F.slot_list_append PySem.F.type_list_append mt_append (pe_dget hc1 (pv 4) (pv 8) (fun _ _ => rfl)) (pa_cons (pv 16) pa_nil)))
          (pss_one (ps_set (i := 15) nd rfl (.inl rfl) (pv 8)))))))
        (pss_cons (ps_if (pt_cmpR op_eq (pv 11) pe_str (nomark _))
          (pss_one (ps_set (i := 2) nd rfl (.inl rfl) (pe_sortLam (par := "_law_name") hr TB rfl hm hu (by rfl) M.sorted (lamP_by (sc := defScope sDriven) (by decide +kernel)) (pv 2) (pk_dict (j := 13) rfl (by decide +kernel) (by decide +kernel) (lamP_by (sc := defScope sDriven) (by decide +kernel)) (Or.inr (Or.inl rfl)))))) pss_nil)
        (pss_cons (ps_expr (pe_bm PySem.F.plainAttrs_list PySem.F.slot_list_append PySem.F.type_list_append mt_append (pv 6) (pa_cons (pe_callTy call_list_of (by rfl) M.list (by decide +kernel) (pa_cons (pv 2) pa_nil)) pa_nil)))
        (pss_one (ps_expr (pe_bm PySem.F.plainAttrs_list PySem.F.slot_list_append PySem.F.type_list_append mt_append (pv 7) (pa_cons (pv 14) pa_nil))))))))))
      (pss_one (ps_ret (pe_tup (pa_cons (pv 4) (pa_cons (pv 6) (pa_cons (pv 7) pa_nil))))))))), ?_⟩
    have ndn : (names cars).Nodup := CO.nd
    obtain ⟨ts, c1, c2, c3⟩ := hC
    obtain ⟨us, u1, u2, u3⟩ := hS
    have hzip : (cars.map (·.start)).length = (ts.map V.ref).length := by rw [List.length_map, List.length_map, c2]
    refine ⟨_, rfl, ca, ts.map V.ref, cars.map (·.start), rfl, .inr (SqT.of c1), hzip, hT, fun H2 e2 i x kk hx hkk => ?_, fun H2 D e2 T2 fD => ?_⟩
    · rw [List.getElem?_map] at hx hkk
      obtain ⟨t, ht, rfl⟩ := Option.map_eq_some_iff.mp hx
      obtain ⟨c, hc, rfl⟩ := Option.map_eq_some_iff.mp hkk
      exact ⟨t, c.vs, rfl, SqT.of (ExtN.tup e2 (c3 i t c ht hc)), rfl⟩
    obtain ⟨sp, esp, hsp, hnm⟩ := sort_pairs c2 ndn
    rw [esp]
    have e3 : ExtN H (upd H2 D (.lst (sp.map fun q => V.ref q.2))) := fun b o e n => by rw [upd_ne (ne_of_none (e2 b o e n) fD)]; exact e2 b o e n
    have T3 : Tabs T (upd H2 D (.lst (sp.map fun q => V.ref q.2))) := T2.ext fun b o e => by rw [upd_ne (ne_of_none e fD)]; exact e
    have hD3 : upd H2 D (.lst (sp.map fun q => V.ref q.2)) D = some (.lst (sp.map fun q => V.ref q.2)) := upd_same
    generalize upd H2 D (.lst (sp.map fun q => V.ref q.2)) = H3 at e3 T3 hD3 ⊢
    refine ⟨D, rfl, ⟨_, SqL.of hD3⟩, fun O hO => ?_⟩
    refine lc_it walk_list (fun i H1 => Same H3 H1 ∧ H1 O = some (.lst (((sp.take i).map fun q => q.1.name).map V.str)))
      ⟨fun b o e => by rw [upd_ne (ne_of_none e hO)]; exact e, upd_same⟩ (fun i H1 _ ⟨k1, _⟩ => SqL.of (k1 _ _ hD3)) ?_ ?_
    · rintro i y H1 H4 hi ⟨k1, hO1⟩ ⟨e, hy⟩
      subst e
      obtain ⟨q, hq, rfl⟩ : ∃ q, sp[i]? = some q ∧ y = V.ref q.2 := by
        rw [List.getElem?_map] at hy
        obtain ⟨t, z1, z2⟩ := Option.map_eq_some_iff.mp hy
        exact ⟨t, z1, z2.symm⟩
      have hmz := hsp q (List.mem_of_getElem? hq)
      obtain ⟨j, hj⟩ := List.mem_iff_getElem?.mp hmz
      obtain ⟨hj1, hj2⟩ := List.getElem?_zip_eq_some.mp hj
      have hqt := k1 _ _ (ExtN.tup e3 (c3 j q.2 q.1 hj2 hj1))
      have hsl : sp.length ≤ 1000 := by
        have h1 := congrArg List.length hnm
        rw [List.length_map, (pl0_perm cars).length_eq] at h1
        unfold names at h1
        rw [List.length_map] at h1
        have := CO.few
        omega
      refine ⟨rfl, yes_of ?_⟩
      refine ⟨_, rfl, q.2, _, _, _, rfl, rfl, SqT.of hqt, rfl, _, hO1, ?_, fun b o e => by rw [upd_ne (ne_of_none e hO)]; exact k1 _ _ e, ?_⟩
      · rw [List.length_map, List.length_map, List.length_take]
        exact small1000 (by omega)
      · rw [upd_same, tk1 hq, List.map_append, List.map_append]
        rfl
    · rintro H1 ⟨k1, hO1⟩
      rw [List.length_map, List.take_length, hnm] at hO1
      have e4 : ExtN H H1 := e3.trans (ExtN.same k1)
      have T4 := T3.ext k1
      clear k1 hD3 T3 e3 hO hsp hnm esp e2 T2 fD
      intro TK hTK
      have S1 := same_new hTK (.dK [])
      have hTK1 : upd H1 TK (.dK []) TK = some (.dK []) := upd_same
      have nwTK : New H TK := New.ext e4 (New.of hTK)
      have e5 := e4.trans (ExtN.same S1)
      have T5 := T4.ext S1
      have hO5 := S1 _ _ hO1
      generalize upd H1 TK (.dK []) = H5 at S1 hTK1 e5 T5 hO5 ⊢
      clear S1 hTK e4 T4 hO1
      intro PD hPD
      have S1 := same_new hPD (.dK [])
      have hPD1 : upd H5 PD (.dK []) PD = some (.dK []) := upd_same
      have nTP : TK ≠ PD := ne_of_none hTK1 hPD
      have nwPD : New H PD := New.ext e5 (New.of hPD)
      have e6 := e5.trans (ExtN.same S1)
      have T6 := T5.ext S1
      have hO6 := S1 _ _ hO5
      have hTK6 := S1 _ _ hTK1
      generalize upd H5 PD (.dK []) = H6 at S1 hPD1 e6 T6 hO6 hTK6 ⊢
      clear S1 hPD hTK1 e5 T5 hO5
      refine ⟨_, rfl, O, _, rfl, .inl (SqL.of hO6), fun Oc hOc => ?_⟩
      have S1 := same_new hOc (.lst ((pl0 cars).ord.map V.str))
      have hOc1 : upd H6 Oc (.lst ((pl0 cars).ord.map V.str)) Oc = some (.lst ((pl0 cars).ord.map V.str)) := upd_same
      have e7 := e6.trans (ExtN.same S1)
      have T7 := T6.ext S1
      have hO7 := S1 _ _ hO6
      have hTK7 := S1 _ _ hTK6
      have hPD7 := S1 _ _ hPD1
      generalize upd H6 Oc (.lst ((pl0 cars).ord.map V.str)) = H7 at S1 hOc1 e7 T7 hO7 hTK7 hPD7 ⊢
      clear S1 hOc e6 T6 hO6 hTK6 hPD1
      refine ⟨by show 1 ≤ sizeLine; decide, fun OD hOD => ?_⟩
      have S1 := same_new hOD (.lst [V.ref Oc])
      have hOD1 : upd H7 OD (.lst [V.ref Oc]) OD = some (.lst [V.ref Oc]) := upd_same
      have nwOD : New H OD := New.ext e7 (New.of hOD)
      have e8 := e7.trans (ExtN.same S1)
      have T8 := T7.ext S1
      have hO8 := S1 _ _ hO7
      have hTK8 := S1 _ _ hTK7
      have hPD8 := S1 _ _ hPD7
      have hOc8 := S1 _ _ hOc1
      generalize upd H7 OD (.lst [V.ref Oc]) = H8 at S1 hOD1 e8 T8 hO8 hTK8 hPD8 hOc8 ⊢
      clear S1 hOD e7 T7 hO7 hTK7 hPD7 hOc1
      refine ⟨Nat.zero_le _, fun LD hLD => ?_⟩
      have S1 := same_new hLD (.lst [])
      have hLD1 : upd H8 LD (.lst []) LD = some (.lst []) := upd_same
      have nwLD : New H LD := New.ext e8 (New.of hLD)
      have nOL : O ≠ LD := ne_of_none hO8 hLD
      have nOcL : Oc ≠ LD := ne_of_none hOc8 hLD
      have e9 := e8.trans (ExtN.same S1)
      have T9 := T8.ext S1
      have hO9 := S1 _ _ hO8
      have hTK9 := S1 _ _ hTK8
      have hPD9 := S1 _ _ hPD8
      have hOc9 := S1 _ _ hOc8
      have hOD9 := S1 _ _ hOD1
      generalize upd H8 LD (.lst []) = H9 at S1 hLD1 e9 T9 hO9 hTK9 hPD9 hOc9 hOD9 ⊢
      clear S1 hLD e8 T8 hO8 hTK8 hPD8 hOc8 hOD1
      refine ⟨by show 4 ≤ sizeLine; decide, fun t0 ht0 => ?_⟩
      have S1 := same_new ht0 (.tup [.ref TK, .ref PD, .ref OD, .ref LD])
      refine ⟨t0, _, rfl, SqT.of upd_same, rfl, _, _, rfl, _, _, rfl, _, _, rfl, _, _, rfl, rfl, ?_⟩
      have eA := e9.trans (ExtN.same S1)
      have TA := T9.ext S1
      have hOA := S1 _ _ hO9
      have hTKA := S1 _ _ hTK9
      have hPDA := S1 _ _ hPD9
      have hOcA := S1 _ _ hOc9
      have hODA := S1 _ _ hOD9
      have hLDA := S1 _ _ hLD1
      show tSeq _ _ _ _ (upd H9 t0 (.tup [.ref TK, .ref PD, .ref OD, .ref LD]))
      generalize upd H9 t0 (.tup [.ref TK, .ref PD, .ref OD, .ref LD]) = HA at S1 eA TA hOA hTKA hPDA hOcA hODA hLDA ⊢
      clear S1 ht0 e9 T9 hO9 hTK9 hPD9 hOc9 hOD9 hLD1
      have htz : (ts.map V.ref).length = cars.length := by rw [List.length_map, c2]
      have h10 : cars.length ≤ 10 := CO.few
      refine ⟨_, rfl, ca, rfl, ⟨_, SqT.of (ExtN.tup eA c1)⟩, for_it walk_tup
        (fun j σ H1 => ∃ v8 v9 v10 ds, σ = [some (.ref sa), some (.ref ca), some (.ref O), none, some (.ref TK), some (.ref PD), some (.ref OD), some (.ref LD), v8, v9, v10, none, none, none, none, none, none] ∧
          ExtN H H1 ∧ Tabs T H1 ∧ H1 O = some (.lst ((pl0 cars).ord.map V.str)) ∧ H1 Oc = some (.lst ((pl0 cars).ord.map V.str)) ∧ H1 OD = some (.lst [V.ref Oc]) ∧ H1 LD = some (.lst []) ∧
          (∃ kt, H1 TK = some (.dK kt) ∧ (kt.length ≤ j ∧ kt.map (·.1) = (cars.take j).map (fun c => (Sum.inr c.name : Key))) ∧ ∀ (q : Nat) (c : Car) (d : Addr), cars[q]? = some c → ds[q]? = some d → valV kt (Sum.inr c.name : Key) = some (.ref d)) ∧
          (∃ kp, H1 PD = some (.dK kp) ∧ kp.length ≤ j ∧ ∀ c ∈ cars.take j, valV kp (Sum.inr c.name : Key) = some (.int c.pace)) ∧
          ds.length = j ∧ ds.Nodup ∧ (∀ d ∈ ds, New H d) ∧ ∀ (q : Nat) (c : Car) (d : Addr), cars[q]? = some c → ds[q]? = some d → H1 d = some (.lst [.int c.start]))
        ⟨none, none, none, [], rfl, eA, TA, hOA, hOcA, hODA, hLDA, ⟨[], hTKA, ⟨Nat.le_refl _, rfl⟩, fun q c d _ e => by simp at e⟩, ⟨[], hPDA, Nat.le_refl _, fun c hc => by simp at hc⟩, rfl, by simp, fun d hd => absurd hd (by simp), fun q c d _ e => absurd e (by simp)⟩
        (fun j σ H1 _ ⟨_, _, _, _, _, e1, _⟩ => SqT.of (ExtN.tup e1 c1)) ?_ ?_⟩
      · rintro j y σ H1 H2 hj ⟨v8, v9, v10, ds, rfl, e1, T1, hO1, hOc1, hOD1, hLD1, ⟨kt, hkt, ⟨lkt, kkt⟩, vkt⟩, ⟨kp, hkp, lkp, vkp⟩, dl, dn, dnew, dv⟩ ⟨e, hy⟩
        subst e
        obtain ⟨t, ht, rfl⟩ : ∃ t, ts[j]? = some t ∧ y = V.ref t := by
          rw [List.getElem?_map] at hy
          obtain ⟨t, z1, z2⟩ := Option.map_eq_some_iff.mp hy
          exact ⟨t, z1, z2.symm⟩
        have hic : j < cars.length := by rw [htz] at hj; exact hj
        obtain ⟨c, hc⟩ : ∃ c, cars[j]? = some c := ⟨_, List.getElem?_eq_getElem hic⟩
        have hct := ExtN.tup e1 (c3 j t c ht hc)
        refine ⟨t, _, rfl, SqT.of hct, rfl, _, _, rfl, _, _, rfl, _, _, rfl, rfl, ?_⟩
        refine ⟨_, rfl, by show 1 ≤ sizeLine; decide, fun d hd => ?_⟩
        have S1 := same_new hd (.lst [V.int c.start])
        have hd1 : upd H2 d (.lst [V.int c.start]) d = some (.lst [V.int c.start]) := upd_same
        have nwd : New H d := New.ext e1 (New.of hd)
        have ndd : d ∉ ds := fun z => by
          obtain ⟨q, hq⟩ := List.mem_iff_getElem?.mp z
          have hq2 : q < cars.length := by
            have := (List.getElem?_eq_some_iff.mp hq).1
            omega
          rw [dv q _ d (List.getElem?_eq_getElem hq2) hq] at hd
          cases hd
        generalize upd H2 d (.lst [V.int c.start]) = H3 at S1 hd1 ⊢
        refine ⟨_, rfl, by show 2 ≤ sizeLine; decide, fun tt htt => ?_⟩
        have S2 := S1.trans (same_new htt (.tup [V.ref d, V.int c.pace]))
        have hd4 := (same_new htt (.tup [V.ref d, V.int c.pace])) _ _ hd1
        have htt4 : upd H3 tt (.tup [V.ref d, V.int c.pace]) tt = some (.tup [V.ref d, V.int c.pace]) := upd_same
        generalize upd H3 tt (.tup [V.ref d, V.int c.pace]) = H4 at S2 hd4 htt4 ⊢
        have hkt4 := S2 _ _ hkt
        have hkp4 := S2 _ _ hkp
        have zT : kt.length < sizeLine := small1000 (by omega)
        have zP : kp.length < sizeLine := small1000 (by omega)
        refine ⟨tt, _, rfl, SqT.of htt4, rfl, _, _, rfl, _, rfl, _, rfl, TK, _, rfl, DPut.k (k := (Sum.inr c.name : Key)) hkt4 zT, _, _, rfl, _, rfl, _, rfl, PD, _, rfl, DPut.k (k := (Sum.inr c.name : Key)) (by rw [upd_ne nTP.symm]; exact hkp4) zP, rfl, ?_⟩
        have kp5 : ∀ b o, H4 b = some o → b ≠ TK → b ≠ PD → upd (upd H4 TK (.dK (putK kt (Sum.inr c.name : Key) (.ref d)))) PD (.dK (putK kp (Sum.inr c.name : Key) (.int c.pace))) b = some o := fun b o e n1 n2 => by
          rw [upd_ne n2, upd_ne n1]
          exact e
        have kl5 : ∀ b xs, H4 b = some (.lst xs) → upd (upd H4 TK (.dK (putK kt (Sum.inr c.name : Key) (.ref d)))) PD (.dK (putK kp (Sum.inr c.name : Key) (.int c.pace))) b = some (.lst xs) := fun b xs e => kp5 b _ e (ne_of e hkt4 (by intro z; cases z)) (ne_of e hkp4 (by intro z; cases z))
        have hT5 : upd (upd H4 TK (.dK (putK kt (Sum.inr c.name : Key) (.ref d)))) PD (.dK (putK kp (Sum.inr c.name : Key) (.int c.pace))) TK = some (.dK (putK kt (Sum.inr c.name : Key) (.ref d))) := by rw [upd_ne nTP, upd_same]
        have hP5 : upd (upd H4 TK (.dK (putK kt (Sum.inr c.name : Key) (.ref d)))) PD (.dK (putK kp (Sum.inr c.name : Key) (.int c.pace))) PD = some (.dK (putK kp (Sum.inr c.name : Key) (.int c.pace))) := upd_same
        refine ⟨_, _, _, ds ++ [d], rfl, fun b o e n => ?_, ?_, kl5 _ _ (S2 _ _ hO1), kl5 _ _ (S2 _ _ hOc1), kl5 _ _ (S2 _ _ hOD1), kl5 _ _ (S2 _ _ hLD1), ⟨_, hT5, ⟨Nat.le_trans (length_putK _ _ _) (by omega), keys_snoc kkt ndn hc⟩, fun q c' d' h1 h2 => ?_⟩, ⟨_, hP5, Nat.le_trans (length_putK _ _ _) (by omega), fun c' hc' => ?_⟩, by rw [List.length_append, dl]; rfl, ?_, fun d' hd' => ?_, fun q c' d' h1 h2 => ?_⟩
        · exact kp5 b o (S2 _ _ (e1 b o e n)) (nwTK b o e n) (nwPD b o e n)
        · intro p hp
          obtain ⟨ps, z1, z2, z3⟩ := T1 p hp
          refine ⟨ps, kp5 _ _ (S2 _ _ z1) (ne_of z1 hkt (by intro z; cases z)) (ne_of z1 hkp (by intro z; cases z)), z2, fun pos cv hcv => ?_⟩
          obtain ⟨cc, y1, y2⟩ := z3 pos cv hcv
          exact ⟨cc, y1, kp5 _ _ (S2 _ _ y2) (ne_of y2 hkt (by intro z; unfold CodeO at z; cases z)) (ne_of y2 hkp (by intro z; unfold CodeO at z; cases z))⟩
        · rw [valV_putS]
          rcases snoc_get h2 with h2 | ⟨hq, rfl⟩
          · have hqj : q < j := by
              have := (List.getElem?_eq_some_iff.mp h2).1
              omega
            have hne : ¬ c'.name = c.name := fun z => by
              have a1 : (names cars)[q]? = some c.name := by unfold names; rw [List.getElem?_map, h1]; exact congrArg some z
              have a2 : (names cars)[j]? = some c.name := by unfold names; rw [List.getElem?_map, hc]; rfl
              have := nd_ix ndn a1 a2
              omega
            rw [if_neg hne]
            exact vkt q c' d' h1 h2
          · rw [dl] at hq
            subst hq
            rw [hc] at h1
            cases h1
            rw [if_pos rfl]
        · rw [valV_putS]
          rw [tk1 hc] at hc'
          rcases List.mem_append.mp hc' with hc' | hc'
          · have hne : ¬ c'.name = c.name := fun z => take_new ndn hc (by rw [← z]; exact List.mem_map.mpr ⟨c', hc', rfl⟩)
            rw [if_neg hne]
            exact vkp c' hc'
          · rw [List.mem_singleton.mp hc', if_pos rfl]
        · rw [List.nodup_append]
          refine ⟨dn, by simp, fun x hx z hz => ?_⟩
          rw [List.mem_singleton.mp hz]
          exact fun w => ndd (w ▸ hx)
        · rcases List.mem_append.mp hd' with hd' | hd'
          · exact dnew d' hd'
          · rw [List.mem_singleton.mp hd']
            exact nwd
        · rcases snoc_get h2 with h2 | ⟨hq, rfl⟩
          · exact kl5 _ _ (S2 _ _ (dv q c' d' h1 h2))
          · rw [dl] at hq
            subst hq
            rw [hc] at h1
            cases h1
            exact kl5 _ _ hd4
      · rintro σ HB ⟨v8, v9, v10, ds, rfl, eB, TB2, hOB, hOcB, hODB, hLDB, ⟨kt, hkt, ⟨lkt, kkt⟩, vkt⟩, ⟨kp, hkp, lkp, vkp⟩, dl, dn, dnew, dv⟩
        rw [htz] at dl lkt kkt lkp vkp
        rw [List.take_length] at vkp
        have et0 : ∀ n, tkl secs cars 0 n = [startOf cars n] := fun n => rfl
        have D0 : DrS T H HB secs cars 0 (tkl secs cars 0) TK PD OD LD ds [Oc] [] := by
          refine ⟨eB, TB2, ⟨kt, hkt, by rw [kkt, List.take_length], vkt⟩, dl, fun q c d h1 h2 => ?_, fun n => by rw [et0]; simp, dn, dnew, ⟨kp, hkp, vkp⟩, hODB, rfl, fun k d h => ?_, nwOD, hLDB, rfl, fun k d h => by simp at h, nwLD, fun d hd => ?_⟩
          · rw [et0, startOf_car ndn (List.mem_of_getElem? h1)]
            exact dv q c d h1 h2
          · have : k = 0 ∧ Oc = d := by
              cases k with
              | zero => exact ⟨rfl, by simpa using h⟩
              | succ k => simp at h
            obtain ⟨rfl, rfl⟩ := this
            exact hOcB
          · rw [List.mem_singleton.mp hd]
            exact nOcL
        have huz : (us.map V.ref).length = secs.length := by rw [List.length_map, u2]
        refine ⟨_, rfl, sa, rfl, ⟨_, SqL.of (ExtN.lst eB u1)⟩, for_it walk_list
          (fun i σ H1 => ∃ v8 v9 v10 v11 v12 v13 v14 v15 v16 O' os ls, σ = [some (.ref sa), some (.ref ca), some (.ref O'), none, some (.ref TK), some (.ref PD), some (.ref OD), some (.ref LD), v8, v9, v10, v11, v12, v13, v14, v15, v16] ∧
            DrS T H H1 secs cars i (tkl secs cars i) TK PD OD LD ds os ls ∧ H1 O' = some (.lst ((plcC secs cars i).ord.map V.str)) ∧ O' ≠ LD)
          ⟨_, _, _, _, _, _, _, _, _, O, [Oc], [], rfl, D0, hOB, nOL⟩ (fun i σ H1 _ ⟨_, _, _, _, _, _, _, _, _, _, _, _, _, D1, _⟩ => SqL.of (ExtN.lst D1.ext u1)) ?_ ?_⟩
        · rintro i y σ H1 H2 hi ⟨v8, v9, v10, v11, v12, v13, v14, v15, v16, O', os, ls, rfl, D1, hO1, nO1⟩ ⟨e, hy⟩
          subst e
          obtain ⟨t, ht, rfl⟩ : ∃ t, us[i]? = some t ∧ y = V.ref t := by
            rw [List.getElem?_map] at hy
            obtain ⟨t, z1, z2⟩ := Option.map_eq_some_iff.mp hy
            exact ⟨t, z1, z2.symm⟩
          have hic : i < secs.length := by rw [huz] at hi; exact hi
          obtain ⟨sec, hsec⟩ : ∃ s, secs[i]? = some s := ⟨_, List.getElem?_eq_getElem hic⟩
          have htv := ExtN.tup D1.ext (u3 i t sec ht hsec)
          have eN : plcC secs cars (i + 1) = stepP (paceOf cars) (plcC secs cars i) sec := plc_succ (paceOf cars) (pl0 cars) secs hsec
          have eL : ∀ n, ldrC secs cars i n = leadP (paceOf cars) (plcC secs cars i) sec n := fun n => by
            show ldr (paceOf cars) (pl0 cars) secs i n = _
            unfold ldr
            rw [hsec]
          have hperm := plcC_perm secs cars i
          have hndo : (plcC secs cars i).ord.Nodup := hperm.nodup_iff.mpr ndn
          have hcar : ∀ n ∈ (plcC secs cars i).ord, ∃ (q : Nat) (c : Car) (d : Addr), cars[q]? = some c ∧ ds[q]? = some d ∧ c.name = n := fun n hn => by
            obtain ⟨c, hc, e⟩ := List.mem_map.mp (hperm.mem_iff.mp hn)
            obtain ⟨q, hq⟩ := List.mem_iff_getElem?.mp hc
            obtain ⟨d, hd⟩ : ∃ d, ds[q]? = some d := ⟨_, List.getElem?_eq_getElem (by rw [D1.dl]; exact (List.getElem?_eq_some_iff.mp hq).1)⟩
            exact ⟨q, c, d, hq, hd, e⟩
          have hol : (plcC secs cars i).ord.length ≤ 10 := by
            rw [hperm.length_eq]
            unfold names
            rw [List.length_map]
            exact h10
          have hlast := fun n => tkl_last secs cars i n
          have hwt := fun n hn => wrows_tick (paceOf cars) (plcC secs cars i) sec hndo (n := n) hn
          have hwl := fun n => wrows_lead (paceOf cars) (plcC secs cars i) sec n
          refine ⟨t, _, rfl, SqT.of htv, rfl, _, _, rfl, _, _, rfl, rfl, ?_⟩
          intro Fr hFr
          have S1 := same_new hFr (.dK [])
          have hFr1 : upd H2 Fr (.dK []) Fr = some (.dK []) := upd_same
          obtain ⟨kt, hkt, _, vkt⟩ := D1.tk
          obtain ⟨kp, hkp, vkp⟩ := D1.pd
          have nTF : TK ≠ Fr := ne_of_none hkt hFr
          have nPF : PD ≠ Fr := ne_of_none hkp hFr
          have nOF : O' ≠ Fr := ne_of_none hO1 hFr
          generalize upd H2 Fr (.dK []) = H3 at S1 hFr1 ⊢
          intro G hG
          have S2 := S1.trans (same_new hG (.dK []))
          have hG1 : upd H3 G (.dK []) G = some (.dK []) := upd_same
          have nFG : Fr ≠ G := ne_of_none hFr1 hG
          have nTG : TK ≠ G := ne_of_none (S1 _ _ hkt) hG
          have nPG : PD ≠ G := ne_of_none (S1 _ _ hkp) hG
          have nlG : ∀ d ∈ ls, d ≠ G := fun d hd => by
            obtain ⟨q, hq⟩ := List.mem_iff_getElem?.mp hd
            obtain ⟨kv, a, b⟩ := D1.lv q d hq
            exact ne_of_none (S1 _ _ a) hG
          have nwG : New H G := New.ext (D1.ext.trans (ExtN.same S1)) (New.of hG)
          have hFr2 := same_new hG (.dK []) _ _ hFr1
          generalize upd H3 G (.dK []) = H4 at S2 hG1 hFr2 ⊢
          refine ⟨by show 3 ≤ sizeLine; decide, fun tt htt => ?_⟩
          have SC := S2.trans (same_new htt (.tup [V.ref Fr, V.ref G, V.non]))
          have hGC := same_new htt (.tup [V.ref Fr, V.ref G, V.non]) _ _ hG1
          have hFC := same_new htt (.tup [V.ref Fr, V.ref G, V.non]) _ _ hFr2
          refine ⟨tt, _, rfl, SqT.of upd_same, rfl, _, _, rfl, _, _, rfl, _, _, rfl, rfl, ?_⟩
          show tSeq _ _ _ _ (upd H4 tt (.tup [V.ref Fr, V.ref G, V.non]))
          generalize upd H4 tt (.tup [V.ref Fr, V.ref G, V.non]) = HC at SC hGC hFC ⊢
          clear S1 S2 hFr1 hG1 hFr2 hG htt
          have hOC := SC _ _ hO1
          have hktC := SC _ _ hkt
          have hkpC := SC _ _ hkp
          generalize hfr : freeP (paceOf cars) (plcC secs cars i) sec.2 = fr at *
          have efr : ∀ n, fr n = (plcC secs cars i).tk n + paceOf cars n * ((sec.2 : Nat) : Int) := fun n => by rw [← hfr]; rfl
          generalize hpl : plcC secs cars i = pl at *
          refine ⟨_, rfl, O', rfl, ⟨_, SqL.of hOC⟩, for_it walk_list
            (fun j σ H1 => ∃ v8, σ = [some (.ref sa), some (.ref ca), some (.ref O'), none, some (.ref TK), some (.ref PD), some (.ref OD), some (.ref LD), v8, v9, v10, some (.str (kindS sec.1)), some (.int ((sec.2 : Nat) : Int)), some (.ref Fr), some (.ref G), some .non, v16] ∧
              KeepB Fr HC H1 ∧ ∃ kf, H1 Fr = some (.dK kf) ∧ kf.length ≤ j ∧ ∀ n ∈ pl.ord.take j, valV kf (Sum.inr n : Key) = some (.int (fr n)))
            ⟨v8, rfl, KeepB.refl _ _, [], hFC, Nat.le_refl _, fun n hn => absurd hn (by simp)⟩ (fun j σ H1 _ ⟨_, _, k1, _⟩ => SqL.of (k1 _ _ hOC nOF)) ?_ ?_⟩
          · rintro j y σ H5 H6 hj ⟨v8, rfl, k1, kf, hkf, lkf, vkf⟩ ⟨e, hy⟩
            subst e
            obtain ⟨n, hn, rfl⟩ : ∃ n, pl.ord[j]? = some n ∧ y = V.str n := by
              rw [List.getElem?_map] at hy
              obtain ⟨t, z1, z2⟩ := Option.map_eq_some_iff.mp hy
              exact ⟨t, z1, z2.symm⟩
            obtain ⟨q, c, d, hq, hd, rfl⟩ := hcar n (List.mem_of_getElem? hn)
            have hjo : j < pl.ord.length := (List.getElem?_eq_some_iff.mp hn).1
            have pb := CO.all c (List.mem_of_getElem? hq)
            have hdv := SC _ _ (D1.dv q c d hq hd)
            have hdv2 := k1 _ _ hdv (ne_of hdv hFC (by intro z; cases z))
            obtain ⟨l0, hl0⟩ := hlast c.name
            rw [hl0, List.map_append] at hdv2
            refine ⟨_, rfl, _, rfl, TK, _, rfl, gk (k1 _ _ hktC nTF) (vkt q c d hq hd), _, rfl, d, _, _, .int (pl.tk c.name), rfl, rfl, SqL.of hdv2, atI_last _ _, _, rfl, _, rfl, PD, _, rfl, gk (k1 _ _ hkpC nPF) (vkp c (List.mem_of_getElem? hq)), _, rfl, _, _, rfl, rfl, .inl ⟨by have := pb.p0; omega, by have := pb.p1; omega⟩, _, _, rfl, rfl, _, rfl, _, rfl, Fr, _, rfl, DPut.k (k := (Sum.inr c.name : Key)) hkf (small1000 (by omega)), ?_⟩
            refine ⟨_, rfl, fun b o e n' => by rw [upd_ne n']; exact k1 _ _ e n', _, upd_same, Nat.le_trans (length_putK _ _ _) (by omega), fun a ha => ?_⟩
            rw [tk1 hn] at ha
            rw [valV_putS]
            by_cases ean : a = c.name
            · rw [if_pos ean, ean, efr, paceOf_car ndn (List.mem_of_getElem? hq)]
            · rw [if_neg ean]
              rcases List.mem_append.mp ha with ha | ha
              · exact vkf a ha
              · exact absurd (List.mem_singleton.mp ha) ean
          · rintro σ H5 ⟨v8', rfl, k1, kf, hkf, lkf, vkf⟩
            have e9 : pl.ord.take (pl.ord.map V.str).length = pl.ord := by rw [List.length_map, List.take_length]
            rw [e9] at vkf
            have SB : Same H2 H5 := fun b o e => k1 _ _ (SC _ _ e) (ne_of_none e hFr)
            have D2 := D1.step (ExtN.same SB) (D1.tabs.ext SB)
            have hG5 := k1 _ _ hGC nFG.symm
            have hO5 := SB _ _ hO1
            clear k1 SB hGC hFC hOC hktC hkpC SC
            refine ⟨_, rfl, O', rfl, ⟨_, SqL.of hO5⟩, for_it walk_list
              (fun j σ H1 => ∃ v8 v16 kG, σ = [some (.ref sa), some (.ref ca), some (.ref O'), none, some (.ref TK), some (.ref PD), some (.ref OD), some (.ref LD), v8, v9, v10, some (.str (kindS sec.1)), some (.int ((sec.2 : Nat) : Int)), some (.ref Fr), some (.ref G), some (aheadV (wrows sec.1 fr (pl.ord.take j))), v16] ∧
                DrS T H H1 secs cars i (gOf (tkl secs cars i) (wrows sec.1 fr (pl.ord.take j))) TK PD OD LD ds os ls ∧ H1 O' = some (.lst (pl.ord.map V.str)) ∧ H1 Fr = some (.dK kf) ∧ H1 G = some (.dK kG) ∧ LdD kG (wrows sec.1 fr (pl.ord.take j)) ∧ kG.length ≤ j)
              ⟨v8', v16, [], rfl, by rw [show wrows sec.1 fr (pl.ord.take 0) = [] from rfl, gOf_nil]; exact D2, hO5, hkf, hG5, fun n => rfl, Nat.le_refl _⟩ (fun j σ H1 _ ⟨_, _, _, _, _, h, _⟩ => SqL.of h) ?_ ?_⟩
            · rintro j y σ H7 H6 hj ⟨v8, v16, kG, rfl, D3, hO6, hF6, hG6, hLd, lkG⟩ ⟨e, hy⟩
              subst e
              obtain ⟨n, hn, rfl⟩ : ∃ n, pl.ord[j]? = some n ∧ y = V.str n := by
                rw [List.getElem?_map] at hy
                obtain ⟨t, z1, z2⟩ := Option.map_eq_some_iff.mp hy
                exact ⟨t, z1, z2.symm⟩
              have hjo : j < pl.ord.length := (List.getElem?_eq_some_iff.mp hn).1
              have hno := List.mem_of_getElem? hn
              obtain ⟨q, c, d, hq, hd, ecn⟩ := hcar n hno
              have enames := wrows_names sec.1 fr (pl.ord.take j)
              have hnew : n ∉ (wrows sec.1 fr (pl.ord.take j)).map (·.1) := by
                rw [enames]
                intro hm
                obtain ⟨j2, hj2⟩ := List.mem_iff_getElem?.mp hm
                have hj3 : j2 < j := by
                  have := (List.getElem?_eq_some_iff.mp hj2).1
                  rw [List.length_take] at this
                  omega
                rw [List.getElem?_take_of_lt hj3] at hj2
                have := nd_ix hndo hj2 hn
                omega
              have hndA : ((wrows sec.1 fr (pl.ord.take j)).map (·.1)).Nodup := by
                rw [enames]
                exact hndo.sublist (List.take_sublist _ _)
              have hsubA : ∀ a ∈ (wrows sec.1 fr (pl.ord.take j)).map (·.1), a ∈ pl.ord := fun a ha => by
                rw [enames] at ha
                exact List.mem_of_mem_take ha
              rw [tk1 hn, wrows_snoc]
              generalize wrows sec.1 fr (pl.ord.take j) = acc at *
              have fin : ∀ (x : Int) (ld : Option Str) (kG' : List (Key × V)) (Hx : Hp), wrow sec.1 fr acc n = (n, x, ld) → DrS T H Hx secs cars i (gOf (tkl secs cars i) acc) TK PD OD LD ds os ls → Hx O' = some (.lst (pl.ord.map V.str)) → Hx Fr = some (.dK kf) → Hx G = some (.dK kG') → LdD kG' (acc ++ [(n, x, ld)]) → kG'.length ≤ j + 1 →
                  ∃ v8 v16 kG, ([some (.ref sa), some (.ref ca), some (.ref O'), none, some (.ref TK), some (.ref PD), some (.ref OD), some (.ref LD), some (.str n), v9, v10, some (.str (kindS sec.1)), some (.int ((sec.2 : Nat) : Int)), some (.ref Fr), some (.ref G), some (.str n), some (.int x)] : L2.St) = [some (.ref sa), some (.ref ca), some (.ref O'), none, some (.ref TK), some (.ref PD), some (.ref OD), some (.ref LD), v8, v9, v10, some (.str (kindS sec.1)), some (.int ((sec.2 : Nat) : Int)), some (.ref Fr), some (.ref G), some (aheadV (acc ++ [wrow sec.1 fr acc n])), v16] ∧
                    DrS T H (upd Hx d (.lst ((gOf (tkl secs cars i) acc n).map V.int ++ [.int x]))) secs cars i (gOf (tkl secs cars i) (acc ++ [wrow sec.1 fr acc n])) TK PD OD LD ds os ls ∧ (upd Hx d (.lst ((gOf (tkl secs cars i) acc n).map V.int ++ [.int x]))) O' = some (.lst (pl.ord.map V.str)) ∧ (upd Hx d (.lst ((gOf (tkl secs cars i) acc n).map V.int ++ [.int x]))) Fr = some (.dK kf) ∧ (upd Hx d (.lst ((gOf (tkl secs cars i) acc n).map V.int ++ [.int x]))) G = some (.dK kG) ∧ LdD kG (acc ++ [wrow sec.1 fr acc n]) ∧ kG.length ≤ j + 1 := fun x ld kG' Hx ew DX hOx hFx hGx hLx lx => by
                rw [ew]
                obtain ⟨tk1', tk2'⟩ := DX.tickKeep hq hd (.lst ((gOf (tkl secs cars i) acc n).map V.int ++ [.int x]))
                refine ⟨some (.str n), some (.int x), kG', ?_, ?_, tk2' _ _ hOx, tk1' _ _ hFx fun _ z => (nomatch z), tk1' _ _ hGx fun _ z => (nomatch z), hLx, lx⟩
                · have : aheadV (acc ++ [(n, x, ld)]) = .str n := by
                    unfold aheadV
                    rw [List.getLast?_append]
                    rfl
                  rw [this]
                · have := DX.tick ndn hq hd x
                  rw [ecn] at this
                  rw [← gOf_snoc (tkl secs cars i) acc (n, x, ld) hnew]
                  exact this
              have hdn := D3.dv q c d hq hd
              rw [ecn] at hdn
              obtain ⟨kt3, hkt3, _, vkt3⟩ := D3.tk
              have vn := vkt3 q c d hq hd
              rw [ecn] at vn
              have gsz : (gOf (tkl secs cars i) acc n).length ≤ 100 := by
                unfold gOf
                rw [look_none hnew, List.append_nil]
                unfold tkl
                rw [List.length_map, List.length_range]
                have := SO.few
                omega
              have zD : ((gOf (tkl secs cars i) acc n).map V.int).length < sizeLine := by rw [List.length_map]; exact small1000 (by omega)
              refine ⟨_, rfl, _, rfl, Fr, _, rfl, gk hF6 (vkf n hno), ?_⟩
              refine ⟨_, rfl, rfl, _, rfl, ?_⟩
              have ek : decide (V.str (kindS sec.1) = V.str "narrow") = !sec.1 := by cases sec.1 <;> decide +kernel
              rw [ek]
              cases hw : sec.1 with
              | true =>
                refine iteF ?_
                refine iteF ?_
                have ew : wrow sec.1 fr acc n = (n, fr n, none) := by unfold wrow; rw [hw]; rfl
                refine ⟨_, rfl, _, rfl, TK, _, rfl, gk hkt3 vn, .inl ⟨rfl, _, SqL.of hdn⟩, _, rfl, d, _, _, rfl, rfl, hdn, zD, _, rfl, ?_⟩
                have z := fin (fr n) none kG H6 ew D3 hO6 hF6 hG6 (hLd.skip (r := (n, fr n, none)) hnew rfl) (by omega)
                rw [hw] at z
                exact z
              | false =>
                refine iteT ?_
                cases hl : acc.getLast? with
                | none =>
                  have eV : aheadV acc = .non := by unfold aheadV; rw [hl]
                  have ew : wrow sec.1 fr acc n = (n, fr n, none) := by
                    unfold wrow
                    rw [hw]
                    show fnext fr acc n = _
                    unfold fnext
                    rw [hl]
                  rw [eV]
                  refine ⟨_, rfl, _, rfl, ?_⟩
                  rw [show (!decide (V.non = V.non)) = false by simp]
                  refine iteF ?_
                  refine iteF ?_
                  refine ⟨_, rfl, _, rfl, TK, _, rfl, gk hkt3 vn, .inl ⟨rfl, _, SqL.of hdn⟩, _, rfl, d, _, _, rfl, rfl, hdn, zD, _, rfl, ?_⟩
                  have z := fin (fr n) none kG H6 ew D3 hO6 hF6 hG6 (hLd.skip (r := (n, fr n, none)) hnew rfl) (by omega)
                  rw [hw] at z
                  exact z
                | some r =>
                  obtain ⟨a, t, l⟩ := r
                  have eV : aheadV acc = .str a := by unfold aheadV; rw [hl]
                  have la := look_last hndA hl
                  have hao : a ∈ pl.ord := hsubA a (List.mem_map.mpr ⟨_, List.mem_of_getLast? hl, rfl⟩)
                  obtain ⟨qa, ca', da, hqa, hda, eca⟩ := hcar a hao
                  have hav := D3.dv qa ca' da hqa hda
                  rw [eca, gOf_in la, List.map_append] at hav
                  have va := vkt3 qa ca' da hqa hda
                  rw [eca] at va
                  rw [eV]
                  refine ⟨_, rfl, _, rfl, ?_⟩
                  rw [show (!decide (V.str a = V.non)) = true by simp]
                  refine iteT ?_
                  refine ⟨_, rfl, _, rfl, TK, _, rfl, gk hkt3 va, _, rfl, da, _, _, .int t, rfl, rfl, SqL.of hav, atI_last _ _, _, rfl, _, _, rfl, rfl, _, rfl, ?_⟩
                  by_cases hcmp : fr n < t
                  · rw [decide_eq_true hcmp]
                    refine iteT ?_
                    have ew : wrow sec.1 fr acc n = (n, t, some (l.getD a)) := by
                      unfold wrow
                      rw [hw]
                      show fnext fr acc n = _
                      unfold fnext
                      rw [hl]
                      exact if_pos hcmp
                    have gG : valV kG (Sum.inr a : Key) = l.map V.str := by rw [hLd a, la]; rfl
                    have eg : ((l.map V.str).getD (.str a)) = V.str (l.getD a) := by cases l <;> rfl
                    have l3 := length_putK kG (Sum.inr n : Key) (.str (l.getD a))
                    refine ⟨_, rfl, _, rfl, TK, _, rfl, gk hkt3 va, _, rfl, da, _, _, .int t, rfl, rfl, SqL.of hav, atI_last _ _, ?_⟩
                    refine ⟨_, rfl, G, rfl, .inl ⟨_, .inl hG6⟩, _, rfl, _, rfl, _, gk0 hG6 gG, ?_⟩
                    rw [eg]
                    refine ⟨_, rfl, _, rfl, G, _, rfl, DPut.k (k := (Sum.inr n : Key)) hG6 (small1000 (by omega)), ?_⟩
                    have D4 := D3.dict hG6 nTG nPG nlG nwG (putK kG (Sum.inr n : Key) (.str (l.getD a)))
                    have kl : ∀ b xs, H6 b = some (.lst xs) → upd H6 G (.dK (putK kG (Sum.inr n : Key) (.str (l.getD a)))) b = some (.lst xs) := fun b xs e => by rw [upd_ne (ne_of e hG6 (by intro z; cases z))]; exact e
                    refine ⟨_, rfl, _, rfl, TK, _, rfl, gk (by rw [upd_ne nTG]; exact hkt3) vn, .inl ⟨rfl, _, SqL.of (kl _ _ hdn)⟩, _, rfl, d, _, _, rfl, rfl, kl _ _ hdn, zD, _, rfl, ?_⟩
                    have z := fin t (some (l.getD a)) _ _ ew D4 (kl _ _ hO6) (by rw [upd_ne nFG]; exact hF6) upd_same (hLd.put (r := (n, t, some (l.getD a))) hnew rfl) (by omega)
                    rw [hw] at z
                    exact z
                  · rw [decide_eq_false hcmp]
                    refine iteF ?_
                    have ew : wrow sec.1 fr acc n = (n, fr n, none) := by
                      unfold wrow
                      rw [hw]
                      show fnext fr acc n = _
                      unfold fnext
                      rw [hl]
                      exact if_neg hcmp
                    refine ⟨_, rfl, _, rfl, TK, _, rfl, gk hkt3 vn, .inl ⟨rfl, _, SqL.of hdn⟩, _, rfl, d, _, _, rfl, rfl, hdn, zD, _, rfl, ?_⟩
                    have z := fin (fr n) none kG H6 ew D3 hO6 hF6 hG6 (hLd.skip (r := (n, fr n, none)) hnew rfl) (by omega)
                    rw [hw] at z
                    exact z
            · rintro σ H6 ⟨v8'', v16', kG, rfl, D3, hO6, hF6, hG6, hLd, lkG⟩
              rw [e9] at D3 hLd
              have D4 : DrS T H H6 secs cars i (tkl secs cars (i + 1)) TK PD OD LD ds os ls := by
                refine D3.congr (fun c hc => ?_) fun n => ?_
                · have hcn : c.name ∈ pl.ord := hperm.mem_iff.mpr (List.mem_map.mpr ⟨c, hc, rfl⟩)
                  obtain ⟨x, hx, ex⟩ := hwt c.name hcn
                  rw [gOf_in hx, tkl_succ, eN, ex]
                · rw [tkl_succ]
                  simp
              have hled : ∀ n, valV kG (Sum.inr n : Key) = (ldrC secs cars i n).map V.str := fun n => by
                rw [hLd n, lead_map, hwl n, eL n]
              refine ⟨_, rfl, rfl, _, rfl, ?_⟩
              have ek : decide (V.str (kindS sec.1) = V.str "wide") = sec.1 := by cases sec.1 <;> decide +kernel
              rw [ek]
              have zO : (os.map V.ref).length < sizeLine := by rw [List.length_map, D4.ol]; have := SO.few; exact small1000 (by omega)
              have zL : (ls.map V.ref).length < sizeLine := by rw [List.length_map, D4.ll]; have := SO.few; exact small1000 (by omega)
              have fin : ∀ (Hx : Hp) (O2 Oc2 : Addr), ExtN H6 Hx → Tabs T Hx → Hx O2 = some (.lst ((plcC secs cars (i + 1)).ord.map V.str)) → O2 ≠ LD → Hx Oc2 = none →
                  DrS T H (upd (upd (upd Hx Oc2 (.lst ((plcC secs cars (i + 1)).ord.map V.str))) OD (.lst (os.map V.ref ++ [.ref Oc2]))) LD (.lst (ls.map V.ref ++ [.ref G]))) secs cars (i + 1) (tkl secs cars (i + 1)) TK PD OD LD ds (os ++ [Oc2]) (ls ++ [G]) ∧
                  (upd (upd (upd Hx Oc2 (.lst ((plcC secs cars (i + 1)).ord.map V.str))) OD (.lst (os.map V.ref ++ [.ref Oc2]))) LD (.lst (ls.map V.ref ++ [.ref G]))) O2 = some (.lst ((plcC secs cars (i + 1)).ord.map V.str)) ∧ O2 ≠ LD ∧
                  (upd Hx Oc2 (.lst ((plcC secs cars (i + 1)).ord.map V.str))) OD = some (.lst (os.map V.ref)) ∧ (upd (upd Hx Oc2 (.lst ((plcC secs cars (i + 1)).ord.map V.str))) OD (.lst (os.map V.ref ++ [.ref Oc2]))) LD = some (.lst (ls.map V.ref)) := fun Hx O2 Oc2 ex Tx hO2 nO2 hOc2 => by
                have DX := D4.step ex Tx
                have Sx := same_new hOc2 (.lst ((plcC secs cars (i + 1)).ord.map V.str))
                have nLc : LD ≠ Oc2 := ne_of_none DX.ld hOc2
                have DY := DX.step (ExtN.same Sx) (DX.tabs.ext Sx)
                have hGx := Sx _ _ (ExtN.dK ex hG6)
                exact ⟨DY.put upd_same nLc.symm hGx hled, DY.putStr (Sx _ _ hO2) nO2 _ _, nO2, DY.od, by rw [upd_ne DY.nOL.symm]; exact DY.ld⟩
              cases hw : sec.1 with
              | true =>
                have eo : (plcC secs cars (i + 1)).ord = sortBy fr pl.ord := by
                  rw [eN]
                  unfold stepP
                  rw [hw, hfr]
                  rfl
                rw [eo] at fin
                refine iteT ?_
                refine ⟨_, rfl, O', pl.ord.map V.str, pl.ord.map fr, rfl, .inl (SqL.of hO6), by simp, D4.tabs, fun Hy e i' x kk hx hkk => ?_, fun Hy Dn ey Ty fD => ?_⟩
                · rw [List.getElem?_map] at hx hkk
                  obtain ⟨n, hn, rfl⟩ := Option.map_eq_some_iff.mp hx
                  rw [hn] at hkk
                  cases hkk
                  exact ⟨Fr, kf, .inr n, rfl, .inl (ExtN.dK e hF6), rfl, vkf n (List.mem_of_getElem? hn)⟩
                have es : (isort ((pl.ord.map fr).zip (pl.ord.map V.str))).map (·.2) = (sortBy fr pl.ord).map V.str := by
                  rw [zip_self, isort_map, List.map_map]
                  unfold sortBy
                  rw [List.map_map]
                  rfl
                rw [es]
                have Sd := same_new fD (.lst ((sortBy fr pl.ord).map V.str))
                have hDn : upd Hy Dn (.lst ((sortBy fr pl.ord).map V.str)) Dn = some (.lst ((sortBy fr pl.ord).map V.str)) := upd_same
                have ez := ey.trans (ExtN.same Sd)
                have Tz := Ty.ext Sd
                have nDn : Dn ≠ LD := (ne_of_none (ExtN.lst ey D4.ld) fD).symm
                generalize upd Hy Dn (.lst ((sortBy fr pl.ord).map V.str)) = Hx at Sd hDn ez Tz ⊢
                have DX := D4.step ez Tz
                refine ⟨_, rfl, .inl ⟨rfl, _, SqL.of DX.od⟩, _, rfl, Dn, _, rfl, .inl (SqL.of hDn), fun Oc2 hOc2 => ?_⟩
                obtain ⟨f1, f2, f3, f4, f5⟩ := fin Hx Dn Oc2 ez Tz hDn nDn hOc2
                refine ⟨OD, _, _, rfl, rfl, f4, zO, ?_⟩
                refine ⟨_, rfl, .inl ⟨rfl, _, SqL.of f5⟩, _, rfl, LD, _, _, rfl, rfl, f5, zL, ?_⟩
                exact ⟨_, _, _, _, _, _, _, _, _, Dn, os ++ [Oc2], ls ++ [G], rfl, f1, by rw [eo]; exact f2, f3⟩
              | false =>
                have eo : (plcC secs cars (i + 1)).ord = pl.ord := by
                  rw [eN]
                  unfold stepP
                  rw [hw]
                  rfl
                rw [eo] at fin
                refine iteF ?_
                refine ⟨_, rfl, .inl ⟨rfl, _, SqL.of D4.od⟩, _, rfl, O', _, rfl, .inl (SqL.of hO6), fun Oc2 hOc2 => ?_⟩
                obtain ⟨f1, f2, f3, f4, f5⟩ := fin H6 O' Oc2 (fun _ _ z _ => z) D4.tabs hO6 nO1 hOc2
                refine ⟨OD, _, _, rfl, rfl, f4, zO, ?_⟩
                refine ⟨_, rfl, .inl ⟨rfl, _, SqL.of f5⟩, _, rfl, LD, _, _, rfl, rfl, f5, zL, ?_⟩
                exact ⟨_, _, _, _, _, _, _, _, _, O', os ++ [Oc2], ls ++ [G], rfl, f1, by rw [eo]; exact f2, f3⟩
        · rintro σ H1 ⟨v8, v9, v10, v11, v12, v13, v14, v15, v16, O', os, ls, rfl, D1, hO1, nO1⟩
          rw [huz] at D1
          refine ⟨_, rfl, _, rfl, _, rfl, by show 3 ≤ sizeLine; decide, fun t ht => ?_⟩
          have S1 := same_new ht (.tup [V.ref TK, V.ref OD, V.ref LD])
          have D2 := D1.step (ExtN.same S1) (D1.tabs.ext S1)
          refine k _ t TK OD LD D2.ext D2.tabs upd_same ?_ ⟨os, D2.od, D2.ol, D2.ov⟩ ⟨ls, D2.ld, D2.ll, D2.lv⟩
          obtain ⟨kt', a1, a0, a2⟩ := D2.tk
          refine ⟨kt', a1, a0, fun c hc => ?_⟩
          obtain ⟨q, hq⟩ := List.mem_iff_getElem?.mp hc
          obtain ⟨d, hd⟩ : ∃ d, ds[q]? = some d := ⟨_, List.getElem?_eq_getElem (by rw [D2.dl]; exact (List.getElem?_eq_some_iff.mp hq).1)⟩
          exact ⟨d, a2 q c d hq hd, D2.dv q c d hq hd⟩
end
end Sl

set_option Elab.async false
set_option linter.all false
set_option maxRecDepth 100000
set_option maxHeartbeats 4000000
namespace Sl
open PySem PySem.Spec L2 OwnR LamX
section
variable {K : PySem.W.Frag}
theorem sameNew {H : Hp} {p : Addr} (h : H p = none) (o : HO) : Same H (upd H p o) := fun b x e => by rw [upd_ne (ne_of_none e h)]; exact e
/-! ### readings, step by step -/
theorem gname_to {i : Nat} {v : V} {σ : L2.St} {H : Hp} {Q : L2.St → Hp → Prop} (h : Q (σ.set i (some v)) H) : gName i v σ H Q := h
theorem seq_cut {t u : TS} {D : Ends} {σ : L2.St} {H : Hp} (C : L2.St → Hp → Prop) (h1 : ∀ nx : L2.St → Hp → Prop, (∀ σ' H', C σ' H' → nx σ' H') → t { D with nx := nx } σ H) (h2 : ∀ σ' H', C σ' H' → u D σ' H') : tSeq t u D σ H := h1 _ h2
theorem seq_asg {te : TE} {g : TG} {u : TS} {D : Ends} {σ : L2.St} {H : Hp} (h : te σ H fun x H1 => g x σ H1 (u D)) : tSeq (tAsg te g) u D σ H := h
theorem op_it {r : R2} {ta tb : TE} {σ : L2.St} {H : Hp} {Q : VK} (h : ta σ H fun x H1 => tb σ H1 fun y H2 => r x y H2 Q) : tOp r ta tb σ H Q := h
theorem test_op {r : R2} {ta tb : TE} {σ : L2.St} {H : Hp} {R : Bool → Hp → Prop} (h : ta σ H fun x H1 => tb σ H1 fun y H2 => r x y H2 fun z H3 => ∃ k, z = .bl k ∧ R k H3) : tTest (tOp r ta tb) σ H R := h
/-- a comprehension behind the value that it walks -/
def tLcB (J : It) (g : TG) (tt : TT) (te : TE) (vs : List Nat) (σ : L2.St) (H1 : Hp) (Q : VK) : Prop := ∀ D, H1 D = none → ∃ W : Nat → Nat → Hp → Prop, (∃ m, W 0 m (upd H1 D (.lst []))) ∧ ∀ i m H, W i m H →
  (J.stop i H ∧ Q (.ref D) H) ∨ (J.go i H ∧ ∃ Nx : Hp → Prop, (∀ H', Nx H' → ∃ m', m' < m ∧ W (i + 1) m' H') ∧ ∀ x H', J.yld i H x H' → g x (wipe σ vs) H' fun σ2 H2 => wipe σ2 vs = wipe σ vs ∧ tt σ2 H2 fun b H3 =>
    if b = true then te σ2 H3 fun y H4 => ∃ acc, H4 D = some (.lst acc) ∧ acc.length < sizeLine ∧ Nx (upd H4 D (.lst (acc ++ [y]))) else Nx H3)
theorem lc_list {tl : TE} {g : TG} {tt : TT} {te : TE} {vs : List Nat} {σ : L2.St} {H : Hp} {Q : VK} (h : tl σ H fun x H1 => ∃ a, x = .ref a ∧ (∃ xs, SqL K H1 a xs) ∧ tLcB (Itl K a) g tt te vs σ H1 Q) : tLc (iList K tl) g tt te vs σ H Q := h
/-- a comprehension that keeps those of a list that a test lets through -/
theorem lf_it {α : Type} (f : α → V) {i : Nat} {tt : TT} {σ : L2.St} {H : Hp} {a : Addr} {xs : List α} {Q : VK} (p : α → Bool) (small : xs.length ≤ 1000) (ha : H a = some (.lst (xs.map f)))
    (hw : ∀ x, wipe ((wipe σ [i]).set i (some x)) [i] = wipe σ [i]) (hv : ∀ x, ((wipe σ [i]).set i (some x))[i]? = some (some x))
    (ht : ∀ (x : α) (H1 : Hp) (R : Bool → Hp → Prop), x ∈ xs → Same H H1 → (∀ H2, Same H1 H2 → R (p x) H2) → tt ((wipe σ [i]).set i (some (f x))) H1 R)
    (k : ∀ D H', Same H H' → H D = none → H' D = some (.lst ((xs.filter p).map f)) → Q (.ref D) H') : tLcB (Itl K a) (gName i) tt (tVar i) [i] σ H Q := by
  intro D hD
  refine lc_it walk_list (fun j H1 => Same H H1 ∧ H1 D = some (.lst (((xs.take j).filter p).map f))) ⟨sameNew hD _, upd_same⟩ (fun j H1 _ ⟨k1, _⟩ => SqL.of (k1 _ _ ha)) ?_ ?_
  · rintro j y Hz H1 hj ⟨s1, hD1⟩ ⟨e, hy⟩
    subst e
    rw [List.length_map] at hj
    obtain ⟨x, hx⟩ : ∃ x, xs[j]? = some x := ⟨_, List.getElem?_eq_getElem hj⟩
    have hy : y = f x := by
      have : (xs.map f)[j]? = some (f x) := by rw [List.getElem?_map, hx]; rfl
      exact Option.some.inj (hy.symm.trans this)
    subst hy
    refine ⟨hw _, ht x _ _ (List.mem_of_getElem? hx) s1 fun H2 s2 => ?_⟩
    have s12 := s1.trans s2
    have hD2 := s2 _ _ hD1
    have en : (xs.take (j + 1)).filter p = (xs.take j).filter p ++ if p x = true then [x] else [] := by
      rw [tk1 hx, List.filter_append]
      by_cases g : p x = true <;> simp [g]
    by_cases g : p x = true
    · rw [g]
      refine iteT ⟨_, hv _, _, hD2, ?_, fun b o e2 => by rw [upd_ne (ne_of_none e2 hD)]; exact s12 _ _ e2, ?_⟩
      · rw [List.length_map]
        exact Nat.lt_of_le_of_lt (Nat.le_trans (List.length_filter_le _ _) (by rw [List.length_take]; omega)) (small1000 (show 1000 ≤ 1000 by decide))
      · rw [upd_same, en, if_pos g, List.map_append]
        rfl
    · rw [Bool.eq_false_iff.mpr g]
      refine iteF ⟨s12, ?_⟩
      rw [hD2, en, if_neg g, List.append_nil]
  rintro H1 ⟨s1, hD1⟩
  rw [List.length_map, List.take_length] at hD1
  exact k D H1 s1 hD hD1
/-- a suite in the middle: what it leaves is enough for the rest -/
theorem via {t : TS} {D : Ends} {σ : L2.St} {H : Hp} (C : L2.St → Hp → Prop) (h1 : ∀ nx : L2.St → Hp → Prop, (∀ σ' H', C σ' H' → nx σ' H') → t { D with nx := nx } σ H) (h2 : ∀ σ' H', C σ' H' → D.nx σ' H') : t D σ H := h1 D.nx h2
/-- a test in the middle: what it leaves is enough for either way -/
theorem viaT {c : TT} {t u : TS} {D : Ends} {σ : L2.St} {H : Hp} (G : Bool → Hp → Prop) (h1 : ∀ Q : Bool → Hp → Prop, (∀ b H', G b H' → Q b H') → c σ H Q) (h2 : ∀ b H', G b H' → if b = true then t D σ H' else u D σ H') : tIfS c t u D σ H := h1 _ h2
end
end Sl

set_option Elab.async false
set_option linter.all false
set_option maxRecDepth 100000
set_option maxHeartbeats 1000000
/-! How late a car can be (rows of k61/J1 and k64/N1). -/
namespace Sl
open PySem PySem.Spec L2 OwnR LamX
section
variable {N : Type} [DecidableEq N]
theorem foll_append (f : N → Int) (a : List N) : ∀ b : List N, ∃ r, foll f (a ++ b) = foll f a ++ r := by
  intro b
  induction b generalizing a with
  | nil => exact ⟨[], by simp⟩
  | cons n r ih =>
    obtain ⟨r', h⟩ := ih (a ++ [n])
    rw [List.append_assoc, List.singleton_append] at h
    exact ⟨fnext f (foll f a) n :: r', by rw [h, foll_snoc, List.append_assoc, List.singleton_append]⟩
theorem foll_at (f : N → Int) {l : List N} {i : Nat} {x : N} (h : l[i]? = some x) : (foll f l)[i]? = some (fnext f (foll f (l.take i)) x) := by
  have hi : i < l.length := (List.getElem?_eq_some_iff.mp h).1
  have e : l = (l.take i ++ [x]) ++ l.drop (i + 1) := by
    rw [← tk1 h, List.take_append_drop]
  obtain ⟨r, hr⟩ := foll_append f (l.take i ++ [x]) (l.drop (i + 1))
  rw [← e, foll_snoc] at hr
  have hl : (foll f (l.take i)).length = i := by rw [foll_length, List.length_take]; omega
  rw [hr, List.getElem?_append_left (by rw [List.length_append, hl]; simp), List.getElem?_append_right (by omega), hl, Nat.sub_self]
  rfl
theorem foll_max (f : N → Int) (l : List N) : ∀ (i : Nat) (r : RowT N), (foll f l)[i]? = some r → (∀ (j : Nat) (y : N), j ≤ i → l[j]? = some y → f y ≤ r.2.1) ∧ ∃ (j : Nat) (y : N), j ≤ i ∧ l[j]? = some y ∧ f y = r.2.1 := by
  intro i
  induction i with
  | zero =>
    intro r hr
    have hlen := (List.getElem?_eq_some_iff.mp hr).1
    rw [foll_length] at hlen
    obtain ⟨x, hx⟩ : ∃ x, l[0]? = some x := ⟨_, List.getElem?_eq_getElem hlen⟩
    rw [foll_at f hx] at hr
    have e : r = (x, f x, none) := (Option.some.inj hr).symm
    subst e
    refine ⟨fun j y hj hy => ?_, 0, x, Nat.le_refl _, hx, rfl⟩
    have : j = 0 := by omega
    subst this
    rw [hx] at hy
    rw [← Option.some.inj hy]
    exact Int.le_refl _
  | succ i ih =>
    intro r hr
    have hlen := (List.getElem?_eq_some_iff.mp hr).1
    rw [foll_length] at hlen
    obtain ⟨x, hx⟩ : ∃ x, l[i + 1]? = some x := ⟨_, List.getElem?_eq_getElem hlen⟩
    obtain ⟨x0, hx0⟩ : ∃ x, l[i]? = some x := ⟨_, List.getElem?_eq_getElem (by omega)⟩
    have h0 := foll_at f hx0
    obtain ⟨h1, j0, y0, hj0, hy0, e0⟩ := ih _ h0
    rw [foll_at f hx] at hr
    have hlast : (foll f (l.take (i + 1))).getLast? = some (fnext f (foll f (l.take i)) x0) := by
      rw [tk1 hx0, foll_snoc, List.getLast?_append]
      simp
    generalize fnext f (foll f (l.take i)) x0 = r0 at *
    obtain ⟨a, t, q⟩ := r0
    have er : r = if f x < t then (x, t, some (q.getD a)) else (x, f x, none) := by
      rw [← Option.some.inj hr]
      unfold fnext
      rw [hlast]
    have et : r.2.1 = max t (f x) := by
      rw [er]
      split
      · show t = _
        omega
      · show f x = _
        omega
    rw [et]
    refine ⟨fun j y hj hy => ?_, ?_⟩
    · rcases Nat.lt_or_ge j (i + 1) with h | h
      · have := h1 j y (by omega) hy
        have e : (a, t, q).2.1 = t := rfl
        rw [e] at this
        omega
      · have : j = i + 1 := by omega
        subst this
        rw [hx] at hy
        rw [← Option.some.inj hy]
        omega
    · rcases Int.lt_or_le (f x) t with h | h
      · refine ⟨j0, y0, by omega, hy0, ?_⟩
        rw [e0]
        show t = _
        omega
      · exact ⟨i + 1, x, Nat.le_refl _, hx, by omega⟩
theorem tick_at (f : N → Int) {l : List N} (nd : l.Nodup) {i : Nat} {x : N} (h : l[i]? = some x) : ∃ r, (foll f l)[i]? = some r ∧ tickOf (foll f l) x = r.2.1 := by
  refine ⟨_, foll_at f h, ?_⟩
  have e := look_get (by rw [foll_names]; exact nd) (foll_at f h)
  rw [fnext_name] at e
  unfold tickOf
  rw [e]
  rfl
theorem tick_max (f : N → Int) {l : List N} (nd : l.Nodup) {i : Nat} {x : N} (h : l[i]? = some x) : (∀ (j : Nat) (y : N), j ≤ i → l[j]? = some y → f y ≤ tickOf (foll f l) x) ∧ ∃ (j : Nat) (y : N), j ≤ i ∧ l[j]? = some y ∧ f y = tickOf (foll f l) x := by
  obtain ⟨r, h1, h2⟩ := tick_at f nd h
  rw [h2]
  exact foll_max f l i r h1
/-- ticks grow, and not too far -/
theorem tick_up {pace : N → Int} {P : Pl N} (nd : P.ord.Nodup) {n : N} (hn : n ∈ P.ord) (hp : 0 ≤ pace n) (s : Bool × Nat) : P.tk n ≤ (stepP pace P s).tk n := by
  have hf : P.tk n ≤ freeP pace P s.2 n := by
    unfold freeP
    have := Int.mul_nonneg hp (Int.natCast_nonneg s.2)
    omega
  unfold stepP
  split
  · exact hf
  · obtain ⟨i, hi⟩ := List.mem_iff_getElem?.mp hn
    have := (tick_max (freeP pace P s.2) nd hi).1 i n (Nat.le_refl _) hi
    show P.tk n ≤ tickOf (foll (freeP pace P s.2) P.ord) n
    omega
theorem tick_cap {pace : N → Int} {P : Pl N} (nd : P.ord.Nodup) {B : Int} (h : ∀ x ∈ P.ord, P.tk x ≤ B ∧ pace x ≤ 60) (s : Bool × Nat) : ∀ x ∈ (stepP pace P s).ord, (stepP pace P s).tk x ≤ B + 60 * (s.2 : Int) ∧ pace x ≤ 60 := by
  intro x hx
  have hx := (stepP_perm pace P s).mem_iff.mp hx
  have hf : ∀ y ∈ P.ord, freeP pace P s.2 y ≤ B + 60 * (s.2 : Int) := fun y hy => by
    obtain ⟨h1, h2⟩ := h y hy
    have := Int.mul_le_mul_of_nonneg_right h2 (Int.natCast_nonneg s.2)
    unfold freeP
    omega
  refine ⟨?_, (h x hx).2⟩
  unfold stepP
  split
  · exact hf x hx
  · obtain ⟨i, hi⟩ := List.mem_iff_getElem?.mp hx
    obtain ⟨_, j, y, _, hy, ey⟩ := tick_max (freeP pace P s.2) nd hi
    have := hf y (List.mem_of_getElem? hy)
    show tickOf (foll (freeP pace P s.2) P.ord) x ≤ _
    omega
theorem plc_up {pace : N → Int} {P : Pl N} (nd : P.ord.Nodup) {n : N} (hn : n ∈ P.ord) (hp : 0 ≤ pace n) (secs : List (Bool × Nat)) : ∀ k, k ≤ secs.length → P.tk n ≤ (plc pace P secs k).tk n
  | 0, _ => Int.le_refl _
  | k + 1, h => by
    obtain ⟨s, hs⟩ : ∃ s, secs[k]? = some s := ⟨_, List.getElem?_eq_getElem (by omega)⟩
    rw [plc_succ pace P secs hs]
    have pm := plc_perm pace P secs k
    exact Int.le_trans (plc_up nd hn hp secs k (by omega)) (tick_up (pm.nodup_iff.mpr nd) (pm.mem_iff.mpr hn) hp s)
theorem plc_cap {pace : N → Int} {P : Pl N} (nd : P.ord.Nodup) {B : Int} (h : ∀ x ∈ P.ord, P.tk x ≤ B ∧ pace x ≤ 60) {secs : List (Bool × Nat)} (h9 : ∀ s ∈ secs, s.2 ≤ 99) : ∀ k, k ≤ secs.length → ∀ x ∈ (plc pace P secs k).ord, (plc pace P secs k).tk x ≤ B + 5940 * (k : Int) ∧ pace x ≤ 60
  | 0, _ => fun x hx => by
    have := h x hx
    exact ⟨by rw [plc_zero]; omega, this.2⟩
  | k + 1, hk => fun x hx => by
    obtain ⟨s, hs⟩ : ∃ s, secs[k]? = some s := ⟨_, List.getElem?_eq_getElem (by omega)⟩
    rw [plc_succ pace P secs hs] at hx ⊢
    have pm := plc_perm pace P secs k
    have := tick_cap (pm.nodup_iff.mpr nd) (plc_cap nd h h9 k (by omega)) s x hx
    have := h9 s (List.mem_of_getElem? hs)
    omega
end
theorem tick_most {secs : List Sec} {cars : List Car} (CO : CarsOk cars) (S : SecsOk secs) {n : Str} (hn : n ∈ names cars) {k : Nat} (hk : k ≤ secs.length) : (plcC secs cars k).tk n ≤ 1100000 := by
  have h := plc_cap (pace := paceOf cars) (P := pl0 cars) (B := 1000000) (secs := secs) ((pl0_perm cars).nodup_iff.mpr CO.nd) (fun x hx => by
    obtain ⟨c, hc, rfl⟩ := List.mem_map.mp ((pl0_perm cars).mem_iff.mp hx)
    refine ⟨?_, by rw [paceOf_car CO.nd hc]; exact (CO.all c hc).p1⟩
    show startOf cars c.name ≤ _
    rw [startOf_car CO.nd hc]
    exact (CO.all c hc).s1) (fun s hs => (S.len s hs).2) k hk n ((plcC_perm secs cars k).mem_iff.mpr hn)
  have := S.few
  show (plc (paceOf cars) (pl0 cars) secs k).tk n ≤ _
  omega
theorem tick_zero {secs : List Sec} {cars : List Car} (CO : CarsOk cars) {n : Str} (hn : n ∈ names cars) {k : Nat} (hk : k ≤ secs.length) : 0 ≤ (plcC secs cars k).tk n := by
  obtain ⟨c, hc, rfl⟩ := List.mem_map.mp hn
  have hp : 0 ≤ paceOf cars c.name := by
    rw [paceOf_car CO.nd hc]
    have := (CO.all c hc).p0
    omega
  have := plc_up (pace := paceOf cars) (P := pl0 cars) ((pl0_perm cars).nodup_iff.mpr CO.nd) ((pl0_perm cars).mem_iff.mpr hn) hp secs k hk
  have e : (pl0 cars).tk c.name = c.start := startOf_car CO.nd hc
  have := (CO.all c hc).s0
  show 0 ≤ (plc (paceOf cars) (pl0 cars) secs k).tk c.name
  omega
end Sl


set_option Elab.async false
set_option linter.all false
set_option maxRecDepth 100000
set_option maxHeartbeats 2000000
/-! Lambdas as values: made (with a default, or none), kept in lists, handed to a def that calls them, called. -/
namespace OwnR
open PySem PySem.Spec PyProof.Rows L2 LamX
/-- the text of a lambda; own: its one parameter, whose default is 0 -/
structure LamT where
  par : Arguments
  body : Expr
  scope : Scope
  own : Option Str
/-- at f: the lambda, its defaults at dV -/
def LamA (f : Addr) (q : Str) (cl : List (Str × Addr)) (T : LamT) (c' : Addr) (dV : Value) : HO :=
  .ext fun h => ∃ doc pm ctv : Value, h.get? f = some (PySem.W.kdv_obj "<lambda>" q T.par (.expr T.body) T.scope cl dV doc pm c' ctv)
theorem lamA_tbl {f c' : Addr} {q : Str} {cl : List (Str × Addr)} {T : LamT} {dV : Value} (ps : Array Value) : LamA f q cl T c' dV ≠ .tbl ps := fun z => by
  unfold LamA at z
  cases z
/-- a lambda of the maker (its name q, its cells cl) stands at f -/
def LamV (q : Str) (cl : List (Str × Addr)) (H : Hp) (f : Addr) (T : LamT) : Prop :=
  ∃ (c' : Addr) (dV : Value), H f = some (LamA f q cl T c' dV) ∧ H c' = some (CodeO c' q) ∧ ((T.own = none ∧ dV = .none) ∨ ∃ (a : Str) (t : Addr), T.own = some a ∧ dV = .ref t ∧ H t = some (.tup [.int 0]))
theorem LamV.ext {q : Str} {cl : List (Str × Addr)} {H H' : Hp} {f : Addr} {T : LamT} (h : LamV q cl H f T) (e : ExtN H H') : LamV q cl H' f T := by
  obtain ⟨c', dV, h1, h2, h3⟩ := h
  refine ⟨c', dV, e _ _ h1 lamA_tbl, e _ _ h2 codeO_ne, ?_⟩
  rcases h3 with h3 | ⟨a, t, h4, h5, h6⟩
  · exact .inl h3
  · exact .inr ⟨a, t, h4, h5, e _ _ h6 (fun _ z => nomatch z)⟩
/-- the parameters bind -/
def LamB (T : LamT) : Prop := match T.own with
  | none => ∀ (q : Str) (cl : List (Str × Addr)) (doc pm cv ctv : Value), bindArgs (PySem.W.kdv_fn "<lambda>" q T.par (.expr T.body) T.scope cl .none doc pm cv ctv) ⟨[], []⟩ = pure []
  | some a => ∀ (q : Str) (cl : List (Str × Addr)) (t : Addr) (doc pm cv ctv : Value), ∃ k : Option (Array Value) → Sem (List (Str × Value)),
      bindArgs (PySem.W.kdv_fn "<lambda>" q T.par (.expr T.body) T.scope cl (.ref t) doc pm cv ctv) ⟨[], []⟩ = (seqItems? (.ref t) >>= k) ∧ ∀ v : Value, k (some #[v]) = pure [(a, v)]
/-- its names: globals, the maker's cells, its parameter (no name of the maker's) -/
structure LamS2 (N : List Str) (sc : Scope) (T : LamT) : Prop where
  kind : T.scope.kind = .function
  co : T.scope.isCoroutine = false
  gen : T.scope.isGenerator = false
  cell : ∀ y ∈ T.scope.names, y.2 ≠ .cell
  loc : ∀ y ∈ T.scope.names, y.2 = .local → y.1 ∉ N
  free : ∀ y ∈ T.scope.names, y.2 = .free → sc.names.lookup y.1 = some .cell ∨ sc.names.lookup y.1 = some .free
  par : ∀ a, T.own = some a → T.scope.names.lookup a = some .local
def lamS2B (N : List Str) (sc : Scope) (T : LamT) : Bool :=
  decide (T.scope.kind = .function) && !T.scope.isCoroutine && !T.scope.isGenerator && (match T.own with | none => true | some a => decide (T.scope.names.lookup a = some .local)) &&
    T.scope.names.all fun y => !decide (y.2 = .cell) && (!decide (y.2 = .local) || !decide (y.1 ∈ N)) && (!decide (y.2 = .free) || decide (sc.names.lookup y.1 = some .cell) || decide (sc.names.lookup y.1 = some .free))
theorem lamS2_by {N : List Str} {sc : Scope} {T : LamT} (h : lamS2B N sc T = true) : LamS2 N sc T := by
  unfold lamS2B at h
  simp only [Bool.and_eq_true, Bool.or_eq_true, Bool.not_eq_true', decide_eq_true_eq, decide_eq_false_iff_not, List.all_eq_true] at h
  obtain ⟨⟨⟨⟨h1, h2⟩, h3⟩, h5⟩, h4⟩ := h
  refine ⟨h1, h2, h3, fun y hy => (h4 y hy).1.1, fun y hy e => ?_, fun y hy e => ?_, fun a e => ?_⟩
  · rcases (h4 y hy).1.2 with z | z
    · exact absurd e z
    · exact z
  · rcases (h4 y hy).2 with (z | z) | z
    · exact absurd e z
    · exact .inl z
    · exact .inr z
  · rw [e] at h5
    exact of_decide_eq_true h5
theorem LamS2.has {X : Cx} {T : LamT} (L : LamS2 X.N X.env.scope T) (ok : X.Ok) : ∀ y ∈ T.scope.names, y.2 = .free → ∃ c, X.env.cells.lookup y.1 = some c := fun y hy e => (L.free y hy e).elim (fun z => ok.has _ (.inl z)) fun z => ok.has _ (.inr z)
/-- the maker's name for its lambdas, the cells that a lambda gets -/
abbrev lq (X : Cx) : Str := X.env.qual ++ "<lambda>"
abbrev lcl (X : Cx) (T : LamT) : List (Str × Addr) := cloFrom X.env.cells T.scope.names []
section
variable {X : Cx} {pins : List (Addr × Obj)} {σ : L2.St} {H : Hp} {s : Shared}
/-- the function object is laid and known -/
theorem fn_laid {f c' : Addr} {T : LamT} {dV doc pm ctv : Value} {h' : Heap} {t' : Nat} (I : Inv X pins σ H { s with heap := h', toks := t' }) (hf : f = h'.objs.size) :
    Inv X pins σ (upd H f (LamA f (lq X) (lcl X T) T c' dV)) { s with heap := h'.push (PySem.W.kdv_obj "<lambda>" (lq X) T.par (.expr T.body) T.scope (lcl X T) dV doc pm c' ctv), toks := t' } := by
  subst hf
  have hg : (h'.push (PySem.W.kdv_obj "<lambda>" (lq X) T.par (.expr T.body) T.scope (lcl X T) dV doc pm c' ctv)).get? h'.objs.size = some (PySem.W.kdv_obj "<lambda>" (lq X) T.par (.expr T.body) T.scope (lcl X T) dV doc pm c' ctv) := Heap.get?_push_size _ rfl
  have new : ObjOk X.prog X.w (upd H h'.objs.size (LamA h'.objs.size (lq X) (lcl X T) T c' dV)) (h'.push (PySem.W.kdv_obj "<lambda>" (lq X) T.par (.expr T.body) T.scope (lcl X T) dV doc pm c' ctv)) h'.objs.size (LamA h'.objs.size (lq X) (lcl X T) T c' dV) :=
    ⟨⟨doc, pm, ctv, hg⟩, ⟨_, hg⟩, fun h1 h2 ⟨d, p, c, e⟩ k => ⟨d, p, c, k _ e⟩⟩
  exact I.laid (s := { s with heap := h', toks := t' }) (t' := t') (fun b o e => Heap.get?_push_of_some _ e) (Nat.le_refl _) new
/-- the lambda's object is made, its defaults at dV -/
theorem tail_makeV {T : LamT} {dV : Value} {Tb : List (Addr × Str)} {c P : Addr} {pos : Pos} {E : Value → Shared → Prop} {Q : Value → Shared → Prop} (I : Inv X pins σ H s) (TB : TabB X.base X.mg c P) (hcode : X.env.code = .ref c)
    (hm : (P, lq X) ∈ Tb) (hu : ∀ p ∈ Tb, p.1 = P → p.2 = lq X) (hT : Tabs Tb H) (hfree : ∀ y ∈ T.scope.names, y.2 = .free → ∃ c, X.env.cells.lookup y.1 = some c)
    (h : ∀ (f c' : Addr) (H1 : Hp) (s' : Shared), Inv X pins σ H1 s' → ExtN H H1 → Tabs Tb H1 → H1 f = some (LamA f (lq X) (lcl X T) T c' dV) → H1 c' = some (CodeO c' (lq X)) → Q (.ref f) s') :
    wpAny (model X.prog X.w) X.A (makeTail "<lambda>" (lq X) T.par (.expr T.body) T.scope X.env dV .none none pos pos.line) Q E s := by
  obtain ⟨ps, hP, ht, ha⟩ := hT _ hm
  have bP : s.heap.BuiltinsAt X.mg P := TB.bm.keeps I.bk
  have hP' : s.heap.get? P = some { cls := .none, data := .fields ps } := I.hok P _ hP
  cases hc : codeAmong pos ps.toList with
  | none =>
    refine PySem.W.kdv_makeTail (mg := X.mg) (c := c) (P := P) (ps := ps) (closure_ok hfree) I.ok.glob (I.mod.glob.keeps I.bk) hcode (TB.code.keeps I.bk) hP' ht hc TB.gP bP fun c' ctv doc h' tk hx hge hlt hrec htb => ?_
    obtain ⟨c2, oc, vs, t, e2, hoc, hd, hv⟩ := hrec
    cases e2
    have hsz : s.heap.objs.size ≤ h'.objs.size := Nat.le_trans hge (Nat.le_of_lt hlt)
    have nC : H c' = none := I.hok.fresh hge
    have I1 := inv_table (t' := tk) (more := #[rawInt pos.line, rawInt pos.col, .ref c']) (h' := h') I hP hx htb hge ⟨oc, vs, t, hoc, hd, hv⟩
    have hE : ExtN H (upd (upd H P (.tbl (ps ++ #[rawInt pos.line, rawInt pos.col, .ref c']))) c' (CodeO c' (lq X))) := fun b o e n => by
      rw [upd_ne (ne_of_none e nC), upd_ne (fun z => n ps (Option.some.inj (e.symm.trans (by rw [z]; exact hP))))]
      exact e
    have n1 : h'.objs.size ≠ c' := Nat.ne_of_gt hlt
    have nF : (upd (upd H P (.tbl (ps ++ #[rawInt pos.line, rawInt pos.col, .ref c']))) c' (CodeO c' (lq X))) h'.objs.size = none := by
      have n2 : h'.objs.size ≠ P := Nat.ne_of_gt (Nat.lt_of_lt_of_le (Heap.lt_size hP') hsz)
      rw [upd_ne n1, upd_ne n2]
      exact I.hok.fresh hsz
    have I2 := fn_laid (T := T) (c' := c') (dV := dV) (doc := doc) (pm := (X.mg "__name__").getD .none) (ctv := ctv) I1 rfl
    have eL : (ps ++ #[rawInt pos.line, rawInt pos.col, .ref c']).toList = ps.toList ++ [rawInt pos.line, rawInt pos.col, .ref c'] := by simp
    have T1 : Tabs Tb (upd (upd H P (.tbl (ps ++ #[rawInt pos.line, rawInt pos.col, .ref c']))) c' (CodeO c' (lq X))) := fun p hp => by
      by_cases hb : p.1 = P
      · rw [hu p hp hb, hb]
        refine ⟨_, by rw [upd_ne (ne_of_none hP nC), upd_same], by rw [eL]; exact PySem.TriplesOk_snoc _ _ _ _ ht, fun p' cv hcv => ?_⟩
        rw [eL] at hcv
        rcases among_app _ ht hcv with z | z
        · obtain ⟨c0, e1, e2⟩ := ha p' cv z
          exact ⟨c0, e1, hE _ _ e2 codeO_ne⟩
        · exact ⟨c', z, upd_same⟩
      · obtain ⟨ps', a1, a2, a3⟩ := hT p hp
        refine ⟨ps', by rw [upd_ne (ne_of_none a1 nC), upd_ne hb]; exact a1, a2, fun p' cv hcv => ?_⟩
        obtain ⟨c0, e1, e2⟩ := a3 p' cv hcv
        exact ⟨c0, e1, hE _ _ e2 codeO_ne⟩
    have sN : ∀ b o, (upd (upd H P (.tbl (ps ++ #[rawInt pos.line, rawInt pos.col, .ref c']))) c' (CodeO c' (lq X))) b = some o → (upd (upd (upd H P (.tbl (ps ++ #[rawInt pos.line, rawInt pos.col, .ref c']))) c' (CodeO c' (lq X))) h'.objs.size (LamA h'.objs.size (lq X) (lcl X T) T c' dV)) b = some o := fun b o e => by
      rw [upd_ne (ne_of_none e nF)]
      exact e
    exact h _ c' _ _ I2 (fun b o e n => sN _ _ (hE b o e n)) (T1.ext sN) upd_same (sN _ _ upd_same)
  | some cv =>
    obtain ⟨c', e, hco⟩ := ha pos cv hc
    subst e
    refine PySem.W.kdv_makeTailHit (mg := X.mg) (c := c) (P := P) (ps := ps) (closure_ok hfree) I.ok.glob (I.mod.glob.keeps I.bk) hcode (TB.code.keeps I.bk) hP' ht hc bP fun ctv doc h' tk hx hsz => ?_
    have I1 : Inv X pins σ H { s with heap := h', toks := tk } := I.kept hx
    have I2 := fn_laid (T := T) (c' := c') (dV := dV) (doc := doc) (pm := (X.mg "__name__").getD .none) (ctv := ctv) I1 rfl
    have nF : H h'.objs.size = none := I.hok.fresh hsz
    have sN : ∀ b o, H b = some o → (upd H h'.objs.size (LamA h'.objs.size (lq X) (lcl X T) T c' dV)) b = some o := fun b o e => by
      rw [upd_ne (ne_of_none e nF)]
      exact e
    exact h _ c' _ _ I2 (ExtN.of sN) (hT.ext sN) upd_same (sN _ _ hco)
/-- the reading of a lambda: a new one stands there -/
def tLamV (Tb : List (Addr × Str)) (q : Str) (cl : List (Str × Addr)) (T : LamT) : TE := fun _ H Q => Tabs Tb H ∧ ∀ (H1 : Hp) (f : Addr), ExtN H H1 → Tabs Tb H1 → LamV q cl H1 f T → Q (.ref f) H1
/-- lambda: body -/
theorem pe_lamV0 {T : LamT} {Tb : List (Addr × Str)} {c P : Addr} {pos : Pos} (TB : TabB X.base X.mg c P) (hcode : X.env.code = .ref c) (hm : (P, lq X) ∈ Tb) (hu : ∀ p ∈ Tb, p.1 = P → p.2 = lq X) (L : LamS2 X.N X.env.scope T)
    (hw : T.own = none) (hdef : defaultsOf T.par X.env = ([], []) := by rfl) : PE X (.Lambda T.par T.body T.scope pos) (tLamV Tb (lq X) (lcl X T) T) := by
  refine ⟨fun pins s σ H Q I h => ?_⟩
  obtain ⟨hT, h⟩ := h
  refine PySem.W.kla_eval hdef ?_
  rw [makeFunction_eq]
  simp only [List.zip_nil_right, List.filterMap_nil, List.isEmpty_nil, if_true, pure_bind]
  exact tail_makeV I TB hcode hm hu hT (L.has I.ok) fun f c' H1 s' I1 e1 T1 h1 h2 => ⟨.ref f, H1, I1, rfl, h H1 f e1 T1 ⟨c', .none, h1, h2, .inl ⟨hw, rfl⟩⟩⟩
/-- lambda a=0: body -/
theorem pe_lamD0 {T : LamT} {Tb : List (Addr × Str)} {c P : Addr} {pos p0 : Pos} {j : Nat} {a : Str} (TB : TabB X.base X.mg c P) (hcode : X.env.code = .ref c) (hm : (P, lq X) ∈ Tb) (hu : ∀ p ∈ Tb, p.1 = P → p.2 = lq X) (L : LamS2 X.N X.env.scope T)
    (hw : T.own = some a) (hd : T.par.defaults = [.Constant (.int 0) j p0]) (hk : T.par.kw_defaults = []) : PE X (.Lambda T.par T.body T.scope pos) (tLamV Tb (lq X) (lcl X T) T) := by
  refine ⟨fun pins s σ H Q I h => ?_⟩
  obtain ⟨hT, h⟩ := h
  refine PySem.W.kdv_lam (by rw [hd]; rfl) hk ?_
  rw [hd]
  have p0 := (pe_int (X := X) (i := 0) (j := j) (pos := p0)).run pins s σ H (fun v H1 => v = .int 0 ∧ H1 = H) I ⟨rfl, rfl⟩
  refine PySem.W.kdv_all1 (wpAny_mono p0 (fun v s1 ⟨x, H1, I1, r1, ex, eH⟩ => PySem.W.kdv_all0 ?_) fun _ _ z => z)
  subst ex eH
  rw [makeFunction_eq]
  simp only [List.zip_nil_right, List.filterMap_nil, List.isEmpty_nil, List.isEmpty_cons, if_true, pure_bind, Bool.false_eq_true, if_false]
  refine wpAny_bind (wpAny_newTextTuple ?_)
  have sz : s1.heap.objs.size ≤ s1.heap.objs.size := Nat.le_refl _
  have hg : (s1.heap.push (PySem.W.kdv_tup [v])).get? s1.heap.objs.size = some (PySem.W.kdv_tup [v]) := Heap.get?_push_size _ rfl
  have I2 : Inv X pins σ (upd H1 s1.heap.objs.size (.tup [.int 0])) { s1 with heap := s1.heap.push (PySem.W.kdv_tup [v]), toks := s1.toks } :=
    I1.laid (t' := s1.toks) (fun b o e => Heap.get?_push_of_some _ e) sz ⟨by show 1 ≤ sizeLine; decide, [v], .cons r1 .nil, ⟨_, hg, rfl, _, rfl⟩⟩
  have nF : H1 s1.heap.objs.size = none := I1.hok.fresh sz
  have sN : ∀ b o, H1 b = some o → (upd H1 s1.heap.objs.size (.tup [.int 0])) b = some o := fun b o e => by
    rw [upd_ne (ne_of_none e nF)]
    exact e
  exact tail_makeV I2 TB hcode hm hu (hT.ext sN) (L.has I.ok) fun f c' H3 s' I3 e3 T3 h1 h2 => ⟨.ref f, H3, I3, rfl, h H3 f ((ExtN.of sN).trans e3) T3 ⟨c', _, h1, h2, .inr ⟨a, _, hw, rfl, e3 _ _ upd_same (fun _ z => nomatch z)⟩⟩⟩
theorem pe_lamV {par : Arguments} {body : Expr} {scope : Scope} {Tb : List (Addr × Str)} {c P : Addr} {pos : Pos} (TB : TabB X.base X.mg c P) (hcode : X.env.code = .ref c) (hm : (P, lq X) ∈ Tb) (hu : ∀ p ∈ Tb, p.1 = P → p.2 = lq X) (L : LamS2 X.N X.env.scope ⟨par, body, scope, none⟩)
    (hdef : defaultsOf par X.env = ([], []) := by rfl) : PE X (.Lambda par body scope pos) (tLamV Tb (lq X) (lcl X ⟨par, body, scope, none⟩) ⟨par, body, scope, none⟩) := pe_lamV0 (T := ⟨par, body, scope, none⟩) TB hcode hm hu L rfl hdef
theorem pe_lamD {par : Arguments} {body : Expr} {scope : Scope} {Tb : List (Addr × Str)} {c P : Addr} {pos p0 : Pos} {j : Nat} {a : Str} (TB : TabB X.base X.mg c P) (hcode : X.env.code = .ref c) (hm : (P, lq X) ∈ Tb) (hu : ∀ p ∈ Tb, p.1 = P → p.2 = lq X) (L : LamS2 X.N X.env.scope ⟨par, body, scope, some a⟩)
    (hd : par.defaults = [.Constant (.int 0) j p0] := by rfl) (hk : par.kw_defaults = [] := by rfl) : PE X (.Lambda par body scope pos) (tLamV Tb (lq X) (lcl X ⟨par, body, scope, some a⟩) ⟨par, body, scope, some a⟩) := pe_lamD0 (T := ⟨par, body, scope, some a⟩) TB hcode hm hu L rfl hd hk
end
end OwnR

set_option Elab.async false
set_option linter.all false
set_option maxRecDepth 100000
set_option maxHeartbeats 2000000
/-! Lambdas that stand as values: called, and handed to a def that calls them. -/
namespace OwnR
open PySem PySem.Spec PyProof.Rows L2 LamX
section
variable {X : Cx} {pins : List (Addr × Obj)} {σ : L2.St} {H HZ : Hp} {s s1 : Shared}
/-- the lambda's context, entered at s1 from the frames outer; its maker stood so at s -/
theorem lam_startV {A : Around} {outer : List Env} {E : XK} {T : LamT} {f c' : Addr} {h₁ : Heap} {tk : Nat} {bs : List (Str × Value)} (I : Inv X pins σ H s) (L : LamS2 X.N X.env.scope T) (e0 : Env0 X.prog X.w X.K X.mg X.base A outer s1 HZ) (hd : A.handled = none)
    (un : Un (frs X.stack) [] H HZ s.heap s1.heap) (ns : h₁.Ns s1.heap.objs.size fun y => bs.reverse.lookup y) (kp : ∀ b o, s1.heap.get? b = some o → h₁.get? b = some o) :
    Inv (lamCx X A outer s1 HZ E T.scope f c') [] σ HZ { s1 with heap := h₁, toks := tk } := by
  have hasC := L.has I.ok
  have up : ∀ {y c}, (lcl X T).lookup y = some c → X.env.cells.lookup y = some c := fun {y c} e => by
    rcases cloFrom_mem (PySem.mem_of_lookup e) with m | ⟨g1, g2⟩
    · exact absurd m (by simp)
    · obtain ⟨d, hcd⟩ := hasC _ g1 rfl
      have hcd : X.env.cells.lookup y = some d := hcd
      rw [hcd] at g2
      rw [hcd, g2]
      rfl
  have down : ∀ {y}, T.scope.names.lookup y = some .free → ∃ c, (lcl X T).lookup y = some c := fun {y} hl => mem_lookup (cloFrom_has (cells := X.env.cells) (acc := []) (show (y, NameKind.free) ∈ T.scope.names from PySem.mem_of_lookup hl))
  have stays : ∀ {c : Addr} {v : Option Value}, H c = none → s.heap.IsCell c v → h₁.IsCell c v := fun {c v} n ⟨o, ho, hdt⟩ =>
    let ⟨sl, q⟩ := un.any ho n (by simp)
    ⟨{ o with slots := sl }, kp _ _ q, hdt⟩
  have no : ∀ b : Addr, ¬ b ∈ (lamCx X A outer s1 HZ E T.scope f c').ex := fun b z => nomatch (show b ∈ ([] : List Addr) from z)
  exact
    { ok :=
        { mod := e0.mod, kind := L.kind, glob := rfl, blt := rfl, above := Nat.le_refl _
          inj := fun y z c e1 e2 => I.ok.inj y z c (up e1) (up e2)
          has := fun y hy => by
            rcases (show T.scope.names.lookup y = some .cell ∨ T.scope.names.lookup y = some .free from hy) with q | q
            · exact absurd rfl (L.cell _ (PySem.mem_of_lookup q))
            · exact down q
          cab := fun y c z => nomatch (show false = true from z)
          hd := fun _ => hd, frames := Around.frames_deeper e0.frames, stk := .inr ⟨rfl, rfl⟩
          exf := fun b z => absurd z (no b), bs := e0.bs, bsz := e0.bsz, noex := fun b _ _ => no b, exfs := fun b z => absurd z (no b), funs := e0.funs, frf := e0.frf }
      os := rfl, bare := e0.bare, base := Un.kept kp
      loc := ⟨_, ns, fun i y v e1 e2 e3 => by
        rcases (show Vis T.scope y from e3) with k | k | k
        · exact absurd (List.mem_of_getElem? (show X.N[i]? = some y from e1)) (L.loc _ (PySem.mem_of_lookup k) rfl)
        · exact absurd rfl (L.cell _ (PySem.mem_of_lookup k))
        · obtain ⟨m, hn, hl⟩ := I.loc
          have vis := L.free _ (PySem.mem_of_lookup k) rfl
          obtain ⟨u, r, q⟩ := hl i y v e1 e2 (vis.elim (fun z => .inr (.inl z)) fun z => .inr (.inr z))
          obtain ⟨c2, h2⟩ := down k
          refine ⟨u, r, .inr ⟨.inr k, c2, h2, ?_⟩⟩
          rcases q with ⟨k', _⟩ | ⟨_, c3, e', z⟩
          · have k' : X.env.scope.names.lookup y = some .local := k'
            rcases vis with k2 | k2
            · rw [show X.env.scope.names.lookup y = _ from k2] at k'; cases k'
            · rw [show X.env.scope.names.lookup y = _ from k2] at k'; cases k'
          · have e'' := e'.symm.trans (up h2)
            cases e''
            exact stays (I.freeC y _ e') z⟩
      cell := fun y c e => let ⟨w', z⟩ := I.cell y c (up e); ⟨w', stays (I.freeC y c (up e)) z⟩
      free := e0.hok.fresh (Nat.le_refl _)
      freeC := fun y c e => by
        obtain ⟨v, o, ho, _⟩ := I.cell y c (up e)
        exact un.free c o ho (I.freeC y c (up e)) (by simp)
      pin := fun q hq => nomatch (show q ∈ ([] : List (Addr × Obj)) from hq)
      hok := e0.hok.kept kp, len := I.len }
/-- what the lambda's body reads, in its own context -/
def LamPE (X : Cx) (T : LamT) (k : Nat) (t : XK → TE) : Prop := ∀ (A : Around) (outer : List Env) (s : Shared) (H : Hp) (E : XK) (f c' : Addr), Room k (A.deeper (lamEnv X T.scope s.heap.objs.size f c')) → PE (lamCx X A outer s H E T.scope f c') T.body (t E)
/-- f() at s1; its maker stood so at s -/
theorem lam_run {A : Around} {outer : List Env} {E : XK} {T : LamT} {f : Addr} {k : Nat} {t : XK → TE} {Q : VK} (I : Inv X pins σ H s) (L : LamS2 X.N X.env.scope T) (B : LamB T) (e0 : Env0 X.prog X.w X.K X.mg X.base A outer s1 HZ) (hr : Room (k + 1) A)
    (un : Un (frs X.stack) [] H HZ s.heap s1.heap) (hb : LamPE X T k t) (hv : LamV (lq X) (lcl X T) HZ f T) (h : t E σ HZ Q) :
    codeAny (model X.prog X.w) A (.call (.ref f) ⟨[], []⟩) (L2.CR (L2.CX X.prog X.w) outer X.prog X.w HZ s1 Q E) s1 := by
  obtain ⟨c', dV, hf, hc, hD⟩ := hv
  obtain ⟨⟨doc, pm, ctv, of⟩, _, _⟩ := e0.hok f _ hf
  obtain ⟨⟨oc, vs, tq, hoc, hdc, hvc⟩, _, _⟩ := e0.hok c' _ hc
  have lim : s1.heap.NoLimit := e0.mod.nolimit.keeps fun b o e => (e0.bs b o e).1
  refine PySem.W.kla_callFunE hr.depth of rfl L.co L.gen rfl ⟨c', oc, vs, tq, rfl, hoc, hdc, hvc⟩ ?_
  have go : ∀ (bs : List (Str × Value)), (∀ y ∈ bs, T.scope.names.lookup y.1 = some .local) →
      wpAny (model X.prog X.w) A.in1 (newFunctionEnv T.scope mainGlobals (lcl X T) bs (lq X ++ ".<locals>.") (some f) (.ref c') none builtinsNs)
        (fun env s₂ => s₂.heap.NoLimit ∧ codeAny (model X.prog X.w) A (.expr T.body env) (L2.CR (L2.CX X.prog X.w) outer X.prog X.w HZ s1 Q E) s₂) (fun e s' => L2.CR (L2.CX X.prog X.w) outer X.prog X.w HZ s1 Q E (.error e) s') s1 := fun bs hbs => by
    refine wpAny_newFunctionEnv L.cell hbs (fun h₁ hns hsb => ⟨lim.fresh _ hsb, ?_⟩) L.kind
    show codeAny _ _ (.expr T.body (lamEnv X T.scope s1.heap.objs.size f c')) _ _
    have kp : ∀ b o, s1.heap.get? b = some o → h₁.get? b = some o := fun b o e => hsb.extBut b o (Nat.ne_of_lt (Heap.lt_size e)) (Heap.get?_push_of_some _ e)
    have J := lam_startV (E := E) (f := f) (c' := c') (tk := s1.toks + bs.length) I L e0 hr.hd un hns kp
    exact PySem.W.kla_codeExpr (wpAny_mono ((hb A outer s1 HZ E f c' (hr.deeper _)).run [] _ _ HZ Q J h) (fun v s' hq => let ⟨w', H', J', rv, q⟩ := hq; ⟨w', H', J'.os, J'.bare, J'.base, J'.hok, rv, q⟩) fun e s' hq => hq)
  unfold LamB at B
  rcases hD with ⟨ho, rfl⟩ | ⟨a, ta, ho, rfl, hta⟩
  · rw [ho] at B
    rw [B]
    exact wpAny_pure (go [] fun y hy => nomatch hy)
  · rw [ho] at B
    obtain ⟨k', b1, b2⟩ := B (lq X) (lcl X T) ta doc pm (.ref c') ctv
    obtain ⟨_, its, ri, oT, hoT, hcl, n, hdT⟩ := (show ObjOk X.prog X.w HZ s1.heap ta (.tup [.int 0]) from e0.hok ta _ hta)
    cases ri with
    | @cons _ v _ _ rv rn =>
      cases rn
      refine BindsTo.of_defaults (fd := PySem.W.kdv_fn "<lambda>" (lq X) T.par (.expr T.body) T.scope (lcl X T) (.ref ta) doc pm (.ref c') ctv) (binds := [(a, v)]) rfl hoT hdT b1 (b2 v) _ _ _ _ ?_
      refine go [(a, v)] fun y hy => ?_
      rw [List.mem_singleton.mp hy]
      exact L.par a ho
end
end OwnR
namespace OwnR
open PySem PySem.Spec PyProof.Rows L2 LamX
/-- the def that calls what it got (a: its parameter); TT: what it makes of the lambda's reading -/
def GivesV (P : Program) (w : World) (K : PySem.W.Frag) (mg : Str → Option Value) (base : Heap) (A : Around) (stack : List Env) (Ng : List Str) (x : Str) (sg : Scope) (g : Addr) (cdg : Value) (bg : List Stmt) (a : Str) (TT : (XK → Hp → VK → Prop) → Hp → VK → Prop) : Prop :=
  ∀ (f : Addr) (s : Shared) (H : Hp) (Q : VK) (Held : Hp → Prop) (tl : XK → Hp → VK → Prop),
    (∀ (W : WX) (pn : List (Addr × Obj)) (xe : Value → Shared → Prop) (E : XK) (p1 p2 : Pos), Takes ((cxOf L2.CX0 P w K mg base Ng x sg g cdg A stack s H L2.E0).tr pn xe) W → (∀ cls d σ' H', σ'.length = Ng.length → E cls d H' → W cls d σ' H') →
      PE ((cxOf L2.CX0 P w K mg base Ng x sg g cdg A stack s H L2.E0).tr pn xe) (.Call (.Name a p1) [] [] p2) (fun σZ HZ Q => σZ[0]? = some (some (.ref f)) ∧ Held HZ ∧ tl E HZ Q)) → Held H → TT tl H Q →
    ∃ t, PSs (cxOf L2.CX0 P w K mg base Ng x sg g cdg A stack s H L2.E0).nox bg t ∧ t { nx := fun _ H' => Q .non H', rt := Q } (L2.start Ng [.ref f]) H
/-- what is told of the def that calls -/
structure Teller (K : PySem.W.Frag) (mg : Str → Option Value) (x a : Str) (g : Addr) (Ng : List Str) (bg : List Stmt) (sg : Scope) (cdv : Value) : Prop where
  mgx : mg x = some (.ref g)
  k : PySem.W.keepIn K (.ref g) = true
  lk : ∃ (oc : Value) (od : Option Addr) (pg : Arguments) (dV kV doc pm ct : Value) (an : Option Addr) (osl : Array (Option Value)), K.lookup g = some ⟨oc, od, .func (PySem.W.fnOf x x pg bg sg dV kV doc pm an cdv ct), osl⟩ ∧ L2.Binds K (PySem.W.fnOf x x pg bg sg dV kV doc pm an cdv ct) [a] []
  cd : PySem.W.codeIn K cdv x = true
  sc : FnScope Ng [a] sg
  n0 : Ng[0]? = some a
  vis : Vis sg a
section
variable {X : Cx} {pins : List (Addr × Obj)} {σ : L2.St} {H : Hp} {s : Shared}
/-- told(f), called where the maker stands at s -/
theorem told_run {x a : Str} {g f : Addr} {Ng : List Str} {bg : List Stmt} {sg : Scope} {cdv : Value} {k : Nat} {T : LamT} {t : XK → TE} {TT : (XK → Hp → VK → Prop) → Hp → VK → Prop} {Q : VK} (I : Inv X pins σ H s) (W : Teller X.K X.mg x a g Ng bg sg cdv)
    (hG : GivesV X.prog X.w X.K X.mg X.base X.A X.stack Ng x sg g cdv bg a TT) (hr : Room (k + 2) X.A) (L : LamS2 X.N X.env.scope T) (B : LamB T) (hb : LamPE X T k t) (hv : LamV (lq X) (lcl X T) H f T) (h : TT (fun E H' Q' => t E σ H' Q') H Q)
    (hd : (a == ("__debug__" : Str)) = false) (hcd : (a == ("__classdict__" : Str)) = false) :
    codeAny (model X.prog X.w) X.A (.call (.ref g) ⟨[.ref f], []⟩) (L2.CR L2.CX0 X.stack X.prog X.w H s Q L2.E0) s := by
  obtain ⟨oc, od, pg, dV, kV, doc, pm, ct, an, osl, lk, hbind⟩ := W.lk
  refine run_ofS (N := Ng) (ps := [a]) (us := [.ref f]) (vs := [.ref f]) lk W.cd W.sc hr I.env0 (hbind s [.ref f] I.kIn rfl) (.cons rfl .nil) rfl fun hr' => ?_
  have act : ∀ (Wx : WX) (pn : List (Addr × Obj)) (xe : Value → Shared → Prop) (E : XK) (p1 p2 : Pos), Takes ((cxOf L2.CX0 X.prog X.w X.K X.mg X.base Ng x sg g cdv X.A X.stack s H L2.E0).tr pn xe) Wx → (∀ cls d σ' H', σ'.length = Ng.length → E cls d H' → Wx cls d σ' H') →
      PE ((cxOf L2.CX0 X.prog X.w X.K X.mg X.base Ng x sg g cdv X.A X.stack s H L2.E0).tr pn xe) (.Call (.Name a p1) [] [] p2) (fun σZ HZ Q => σZ[0]? = some (some (.ref f)) ∧ LamV (lq X) (lcl X T) HZ f T ∧ t E σ HZ Q) := by
    intro Wx pn xe E p1 p2 tk hW
    refine ⟨fun pinsZ sZ σZ HZ Q IZ hh => ?_⟩
    obtain ⟨hs, hvZ, ht⟩ := hh
    refine wpAny_Call_Name_kw (thn ((pe_var (pos := p1) (i := 0) W.n0 W.vis hd hcd).run pinsZ sZ σZ HZ (fun v H1 => v = .ref f ∧ H1 = HZ) IZ ⟨.ref f, hs, rfl, rfl⟩) fun u s2 ⟨v, H2, I2, r2, ev, eH⟩ => ?_)
    subst ev eH
    obtain rfl : u = Value.ref f := r2
    obtain ⟨c', dV', hf, _⟩ := id hvZ
    obtain ⟨⟨doc', pm', ctv', of⟩, _, _⟩ := I2.hok f _ hf
    refine PySem.W.callWith_F0 ⟨_, _, _, _, of⟩ ?_
    have rc := lam_run (E := E) (Q := Q) I L B I2.env0 hr' I2.base hb hvZ ht
    refine wpAny_call (codeAny_mono rc fun r s' hq => ?_)
    cases r with
    | error e => exact tk e s' (XE.of_call I2 (fun cls d H' h => hW cls d σZ H' I2.len h) hq)
    | ok fl =>
      cases fl with
      | ret u => exact I2.after hq
      | next => exact False.elim hq
      | brk => exact False.elim hq
      | cont => exact False.elim hq
  obtain ⟨t', ht', hq'⟩ := hG f s H Q (fun HZ => LamV (lq X) (lcl X T) HZ f T) (fun E H' Q' => t E σ H' Q') act hv h
  exact ⟨t', ht'.nox, hq'⟩
/-- told(e), e a lambda's value -/
def tTold (X : Cx) (k : Nat) (TT : (XK → Hp → VK → Prop) → Hp → VK → Prop) (te : TE) : TE := fun σ H Q => te σ H fun y H1 => ∃ (f : Addr) (T : LamT) (t : XK → TE), y = .ref f ∧ LamS2 X.N X.env.scope T ∧ LamB T ∧ LamPE X T k t ∧ LamV (lq X) (lcl X T) H1 f T ∧ TT (fun E H' Q' => t E σ H' Q') H1 Q
theorem pe_told {x a : Str} {g : Addr} {Ng : List Str} {bg : List Stmt} {sg : Scope} {cdv : Value} {k : Nat} {TT : (XK → Hp → VK → Prop) → Hp → VK → Prop} {e : Expr} {te : TE} {p pos : Pos} (W : Teller X.K X.mg x a g Ng bg sg cdv) (hg : Gl X x)
    (hG : GivesV X.prog X.w X.K X.mg X.base X.A X.stack Ng x sg g cdv bg a TT) (hr : Room (k + 2) X.A) (he : PE X e te) (hdb : (x == ("__debug__" : Str)) = false := by decide) (hd : (a == ("__debug__" : Str)) = false := by decide) (hcd : (a == ("__classdict__" : Str)) = false := by decide)
    (h1 : starEach [e] X.env = (false, eval e X.env) :: starEach [] X.env := by rfl) (h2 : (backTo pos (starEach [] X.env)).any (·.1) = false := by rfl) :
    PE X (.Call (.Name x p) [e] [] pos) (tTold X k TT te) := by
  refine ⟨fun pins s σ H Q I h => ?_⟩
  have ha : PA X [e] (tCons te tNil) := pa_cons he pa_nil h1
  refine wpAny_Call_Name_kw (ld_glob I hg W.mgx ?_ hdb)
  refine PySem.W.callWith_K (h₀ := X.base) I.ok.mod.kin W.k (thn (ha.run pos pins s σ H (fun vs H1 => ∃ (f : Addr) (T : LamT) (t : XK → TE), vs = [.ref f] ∧ LamS2 X.N X.env.scope T ∧ LamB T ∧ LamPE X T k t ∧ LamV (lq X) (lcl X T) H1 f T ∧ TT (fun E H' Q' => t E σ H' Q') H1 Q) I ?_) fun us s1 hs => ?_) h1 h2
  · show te σ H _
    have key : ∀ (Q1 Q2 : VK), Q1 = Q2 → te σ H Q1 → te σ H Q2 := fun _ _ z y => z ▸ y
    refine key _ _ (funext fun y => funext fun H1 => propext ⟨fun ⟨f, T, t, e, r⟩ => ⟨f, T, t, by rw [e], r⟩, fun ⟨f, T, t, e, r⟩ => ⟨f, T, t, by injection e, r⟩⟩) h
  · obtain ⟨vs, H1, I1, r, f, T, t, rfl, L, B, hb, hv, hT⟩ := hs
    obtain ⟨u, rfl, ru⟩ := r.one
    obtain rfl : u = Value.ref f := ru
    refine ⟨I1.kIn, wpAny_call (codeAny_mono (told_run I1 W hG hr L B hb hv hT hd hcd) fun r s2 hq => ?_)⟩
    cases r with
    | error e => exact (show False from hq).elim
    | ok fl =>
      cases fl with
      | ret u => exact I1.after hq
      | next => exact False.elim hq
      | brk => exact False.elim hq
      | cont => exact False.elim hq
end
end OwnR

set_option Elab.async false
set_option linter.all false
set_option maxRecDepth 100000
set_option maxHeartbeats 2000000
/-! Caught errors of own classes, with a dict of their own or without one. -/
namespace OwnR
open PySem PySem.Spec PyProof.Rows L2 LamX
/-- what an own class of errors says of itself -/
structure ErrC (K : PySem.W.Frag) (C : Addr) : Prop where
  cl : (PySem.W.clsIn K C).isSome = true
  ga : PySem.W.findIn K (.ref C) "__getattribute__" = some (some (.builtin "BaseException.__getattribute__"))
  gg : PySem.W.findIn K (.ref C) "__getattr__" = some none
  sub : PySem.W.subIn K (.ref C) (.type "BaseException") = some true
  hd : PySem.W.hasDictIn K C = true
  cat : PySem.W.findIn K (.ref C) "__class__" = some (some (.builtin "object.__class__"))
  sp : PySem.W.specialIn K (.builtin "object.__class__") "__get__" = some (some (.builtin "getset_descriptor.__get__"))
  tk : PySem.W.takesIn K (.builtin "object.__class__") = some true
  mro : PySem.W.mroIn K C (.type "object") = some true
  ix : PySem.W.findIn K (.ref C) "index" = some none
  nm : PySem.W.findIn K (.ref C) "name" = some none
theorem ErrC.xf {K : PySem.W.Frag} {C : Addr} (h : ErrC K C) : XfC K C := ⟨h.ga, h.gg, h.sub, h.hd⟩
/-- the error's own dict, if it has one, is known -/
def DictK (H : Hp) (d : Option Addr) : Prop := d = none ∨ ∃ dd fs, d = some dd ∧ H dd = some (.xd fs)
theorem DictK.ext {H H' : Hp} {d : Option Addr} (h : DictK H d) (e : ExtN H H') : DictK H' d := by
  rcases h with h | ⟨dd, fs, h1, h2⟩
  · exact .inl h
  · exact .inr ⟨dd, fs, h1, e _ _ h2 (fun _ z => nomatch z)⟩
/-- isinstance(e, c), e the error that the suite holds -/
def rIsV (K : PySem.W.Frag) (D a : Addr) (d : Option Addr) : List V → Hp → VK → Prop := fun xs H Q => ∃ (c : V) (cv : Value) (b : Bool), xs = [.ref a, c] ∧ (∀ u, RelV c u → u = cv) ∧ PySem.W.kitOne K (.ref D) cv = some b ∧ DictK H d ∧ Q (.bl b) H
theorem call_isV {X : Cx} {a D : Addr} {d : Option Addr} {oe : Obj} {pn : List (Addr × Obj)} (C : ErrC X.K D) (hz : Zc (.ref D) d oe) (hf : ∃ vs, oe.data = .fields vs) : CallR (X.suite a ((a, oe) :: pn)) (.builtin "isinstance") (rIsV X.K D a d) := by
  intro pins s σ H xs us Q I r h
  obtain ⟨c, cv, b, rfl, hcv, e, hd, q⟩ := h
  obtain ⟨u1, ur, rfl⟩ : ∃ u1 ur, us = u1 :: ur := by cases r; exact ⟨_, _, rfl⟩
  cases r with
  | cons rx rr =>
    obtain ⟨u2, rfl⟩ : ∃ u2, ur = [u2] := by
      cases rr with
      | cons _ rr => cases rr; exact ⟨_, rfl⟩
    cases rr with
    | cons rt _ =>
      cases rx
      have ec := hcv _ rt
      subst ec
      obtain ⟨hget, _⟩ := I.pin (a, oe) (List.mem_append.mpr (.inl List.mem_cons_self))
      obtain ⟨vs, hv⟩ := hf
      obtain ⟨oc, od, oda, osl⟩ := oe
      obtain ⟨h1, h2⟩ := hz
      dsimp only at h1 h2 hv
      subst h1 h2 hv
      rcases hd with hd | ⟨dd, fs, hd, hdd⟩
      · subst hd
        exact PySem.W.kia_one (PySem.W.kitx_exc (od := none) C.cl C.ga C.gg C.sub C.cat C.sp C.tk C.mro) I.kIn ⟨hget, rfl, rfl, trivial⟩ e (fun z => nomatch z) fun tk => ⟨.bl b, H, I.kept (t' := tk) fun _ _ z => z, rfl, q⟩
      · subst hd
        obtain ⟨mA, hns, _⟩ := (show ObjOk X.prog X.w H s.heap dd (.xd fs) from I.hok dd _ hdd)
        obtain ⟨o1, ho1, _⟩ := lookIn_ns hns
        exact PySem.W.kia_one (PySem.W.kitx_exc (od := some o1) C.cl C.ga C.gg C.sub C.cat C.sp C.tk C.mro) I.kIn ⟨hget, rfl, rfl, ho1⟩ e (fun z => nomatch z) fun tk => ⟨.bl b, H, I.kept (t' := tk) fun _ _ z => z, rfl, q⟩
/-! ### list.count of flat things -/
def rCntV (K : PySem.W.Frag) : V → List V → Hp → VK → Prop := fun x xs H Q => ∃ (p : Addr) (ys : List V) (y : V), x = .ref p ∧ xs = [y] ∧ SqL K H p ys ∧ flatV y = true ∧ ys.all flatV = true ∧ Q (.int ((ys.countP fun z => eqV z y : Nat) : Int)) H
theorem countU {y : V} : ∀ {ys : List V} {us : List Value}, Vals ys us → ys.all flatV = true → us.countP (eqU y) = ys.countP fun z => eqV z y
  | _, _, .nil, _ => rfl
  | z :: ys, u :: us, .cons r t, f => by
    obtain ⟨f1, f2⟩ := Bool.and_eq_true_iff.mp f
    rw [List.countP_cons, List.countP_cons, countU t f2, eqU_of r f1]
theorem mt_countV {X : Cx} : MtR X "list.count" (rCntV X.K) := by
  intro pins s σ H x xs v us Q I rx rxs h
  obtain ⟨p, ys, y, rfl, rfl, hs, fy, fys, q⟩ := h
  cases (show v = Value.ref p from rx)
  obtain ⟨u, rfl, ru⟩ := rxs.one
  obtain ⟨its, rv, ⟨⟨cls, dd, data, sl⟩, n, ho, hc, hdn, hd⟩, hlen⟩ := I.list hs
  dsimp only at hc hd
  subst hc hd
  have key := SeqAt.list_countAt p its.toArray n dd sl u (eqU y)
  refine call_meets PySem.F.slot_list_count ⟨_, ho, rfl⟩ PySem.F.entry_list_count (PySem.F.args_list_count_2 _ _) key ⟨ho, fun w hw => mem_eqAt ru fy rv fys w (by simpa using hw), ?_⟩
  refine ⟨.int ((its.toArray.toList.countP (eqU y) : Nat) : Int), H, I.tok _, ⟨s.toks, rfl⟩, ?_⟩
  rw [show its.toArray.toList = its by simp, countU rv fys]
  exact q
end OwnR

set_option Elab.async false
set_option linter.all false
set_option maxRecDepth 100000
set_option maxHeartbeats 2000000
namespace Sl
open PySem PySem.Spec L2 OwnR LamX
section
variable {P : Program} {w : World} {K : PySem.W.Frag} {mg : Str → Option Value} {base : Heap}
/-! ### is_number of anything -/
/-- a number within limits -/
def numB : V → Int → Int → Bool
  | .int i, lo, hi => decide (lo ≤ i) && decide (i ≤ hi)
  | _, _, _ => false
/-- what may be asked: a number, None, a bool, a text -/
def Plain (v : V) : Prop := (∃ i, v = .int i) ∨ v = .non ∨ (∃ b, v = .bl b) ∨ ∃ z, v = .str z
def spIsNumV : Sp := fun vs H Q _ => ∃ (v : V) (lo hi : Int), vs = [v, .int lo, .int hi] ∧ Plain v ∧ Q (.bl (numB v lo hi)) H
theorem ok_isNumV {f : Addr} {fd : FuncData} (F : Fun K "is_number" "is_number" sIsNumber f fd) (M : Mg mg) : FnOk P w K mg base CX0 1 f fd ["value", "least", "most"] spIsNumV := by
  refine F.ok scIsNumber (fun vs H Q E h => ?_) (fun cdv A outer s H vs Q E hr h => ?_)
  · obtain ⟨i, lo, hi, rfl, _⟩ := h
    rfl
  · obtain ⟨v, lo, hi, rfl, hv, k⟩ := h
    refine ⟨_, pss_one (ps_ret (pe_and (pe_callB call_isi (by rfl) M.isinstance boot_isinstance (pa_cons (pv 0) (pa_cons (pe_bltn (v := .ty "int") (by rfl) M.int boot_tInt rfl) pa_nil)))
      (pe_and (pe_not (pe_callB call_isi (by rfl) M.isinstance boot_isinstance (pa_cons (pv 0) (pa_cons (pe_bltn (v := .ty "bool") (by rfl) M.bool boot_tBool rfl) pa_nil))))
        (pe_one (pe_chain op_le op_le (pv 1) (pv 0) (pv 2)))))), ?_⟩
    rcases hv with ⟨i, rfl⟩ | rfl | ⟨b, rfl⟩ | ⟨z, rfl⟩
    · refine ⟨_, rfl, _, _, _, _, true, rfl, .ty _, .base (.int i), kit_ty (by decide +kernel), true, rfl, iteT ?_⟩
      refine ⟨_, rfl, _, _, _, _, false, rfl, .ty _, .base (.int i), kit_ty (by decide +kernel), false, rfl, true, rfl, iteT ?_⟩
      refine ⟨_, rfl, _, rfl, lo, i, rfl, rfl, _, rfl, ?_⟩
      have k : Q (.bl (decide (lo ≤ i) && decide (i ≤ hi))) H := k
      by_cases h1 : lo ≤ i
      · rw [decide_eq_true h1] at k ⊢
        exact iteT ⟨_, rfl, i, hi, rfl, rfl, by simpa using k⟩
      · rw [decide_eq_false h1] at k ⊢
        exact iteF (by simpa using k)
    · exact ⟨_, rfl, _, _, _, _, false, rfl, .ty _, .base .non, kit_ty (by decide +kernel), false, rfl, iteF k⟩
    · refine ⟨_, rfl, _, _, _, _, true, rfl, .ty _, .base (.bl b), kit_ty (by decide +kernel), true, rfl, iteT ?_⟩
      exact ⟨_, rfl, _, _, _, _, true, rfl, .ty _, .base (.bl b), kit_ty (by decide +kernel), true, rfl, false, rfl, iteF k⟩
    · exact ⟨_, rfl, _, _, _, _, false, rfl, .ty _, .base (.str z), kit_ty (by decide +kernel), false, rfl, iteF k⟩
/-- an own class of errors that is made with a text -/
structure ErrT (K : PySem.W.Frag) (mg : Str → Option Value) (x : Str) (C : Addr) : Prop where
  q : PySem.W.excIn K C [.type "ValueError", .type "Exception", .type "BaseException", .type "object"] "ValueError.__new__" = true
  g : mg x = some (.ref C)
  k : PySem.W.keepIn K (.ref C) = true
  b : PySem.W.subIn K (.ref C) (.type "BaseException") = some true
  t : PySem.W.typeIn K (.ref C) = some (.type "type")
theorem pmk_errT {X : Cx} {C : Addr} {x m : Str} {j : Nat} {p p2 pos : Pos} (e : ErrT X.K X.mg x C) (hg : Gl X x) (hdb : (x == ("__debug__" : Str)) = false := by decide) : PMk X (.Call (.Name x p) [.Constant (.str m) j p2] [] pos) (fun _ H Q => Q (.ref C) none H) :=
  pmk_own PySem.F.excBase_ValueError e.q e.g e.k (raises_own e.b e.t) hg hdb
end
end Sl

set_option Elab.async false
set_option linter.all false
set_option maxRecDepth 100000
set_option maxHeartbeats 2000000
/-! A live road: its operations, apart from the heap; what raises. -/
namespace Sl
open PySem PySem.Spec L2 OwnR LamX
theorem map_atZ {α β : Type} {xs : List α} {k : Nat} {v : α} (f : α → β) (h : xs[k]? = some v) : (xs.map f)[k]? = some (f v) := by rw [List.getElem?_map, h]; rfl
/-! ### operations -/
inductive Op
  | join (n : Str) (s p : Nat)
  | rem (n : Str)
  | kind (i : Nat) (b : Bool)
def Op.vs : Op → List V
  | .join n s p => [.str "join", .str n, .int ((s : Nat) : Int), .int ((p : Nat) : Int)]
  | .rem n => [.str "remove", .str n]
  | .kind i b => [.str "set_kind", .int ((i : Nat) : Int), .str (kindS b)]
inductive Er
  | name
  | many
  | car (n : Str)
inductive Rs
  | tick (i : Int)
  | chg (ns : List Str) (g : Str → Int × Int)
abbrev St2 := List Sec × List Car
def arrL (S : St2) (n : Str) : Int := (plcC S.1 S.2 S.1.length).tk n
def lessC (cars : List Car) (n : Str) : List Car := cars.filter fun c => decide (c.name ≠ n)
def setK (secs : List Sec) (i : Nat) (b : Bool) : List Sec := secs.set i (b, (secs.getD i (b, 1)).2)
/-- the cars that are there and arrive at another tick -/
def chgN (S S' : St2) : List Str := (names S'.2).filter fun n => decide (arrL S n ≠ arrL S' n)
def chgX (S S' : St2) : Rs := .chg (chgN S S') fun n => (arrL S n, arrL S' n)
def newC (n : Str) (s p : Nat) : Car := ⟨n, ((s : Nat) : Int), ((p : Nat) : Int)⟩
def stepO (S : St2) : Op → Er ⊕ (St2 × Rs)
  | .join n s p => if n ∈ names S.2 then .inl .name else if S.2.length = 10 then .inl .many else .inr ((S.1, S.2 ++ [newC n s p]), .tick (arrL (S.1, S.2 ++ [newC n s p]) n))
  | .rem n => if n ∈ names S.2 then .inr ((S.1, lessC S.2 n), chgX S (S.1, lessC S.2 n)) else .inl (.car n)
  | .kind i b => .inr ((setK S.1 i b, S.2), chgX S (setK S.1 i b, S.2))
/-- what an operation is asked with -/
def OpOk (S : St2) : Op → Prop
  | .join n s p => NameOk n ∧ (∀ c, S.2.getLast? = some c → c.start ≤ ((s : Nat) : Int)) ∧ s ≤ 1000000 ∧ 1 ≤ p ∧ p ≤ 60
  | .rem _ => True
  | .kind i _ => i < S.1.length
structure StOk (S : St2) : Prop where
  so : SecsOk S.1
  co : CarsOk S.2
theorem less_ok {cars : List Car} (CO : CarsOk cars) (n : Str) : CarsOk (lessC cars n) where
  all := fun c hc => CO.all c (List.mem_filter.mp hc).1
  nd := CO.nd.sublist (List.Sublist.map _ List.filter_sublist)
  few := Nat.le_trans (List.length_filter_le _ _) CO.few
theorem setK_len (secs : List Sec) (i : Nat) (b : Bool) : (setK secs i b).length = secs.length := List.length_set
theorem setK_ok {secs : List Sec} (SO : SecsOk secs) {i : Nat} (hi : i < secs.length) (b : Bool) : SecsOk (setK secs i b) where
  ne := fun z => by
    have := setK_len secs i b
    rw [z] at this
    exact absurd this (by intro e; rw [← e] at hi; exact Nat.not_lt_zero _ hi)
  few := by rw [setK_len]; exact SO.few
  len := fun s hs => by
    unfold setK at hs
    rcases List.mem_or_eq_of_mem_set hs with h | h
    · exact SO.len s h
    · rw [h]
      have e : secs.getD i (b, 1) = secs[i] := by rw [List.getD_eq_getElem?_getD, List.getElem?_eq_getElem hi]; rfl
      show 1 ≤ (secs.getD i (b, 1)).2 ∧ (secs.getD i (b, 1)).2 ≤ 99
      rw [e]
      exact SO.len _ (List.getElem_mem hi)
theorem newC_ok {n : Str} {s p : Nat} (hn : NameOk n) (hs : s ≤ 1000000) (p1 : 1 ≤ p) (p2 : p ≤ 60) : (newC n s p).Ok := ⟨hn, by show (0 : Int) ≤ (s : Int); omega, by show (s : Int) ≤ 1000000; omega, by show (1 : Int) ≤ (p : Int); omega, by show (p : Int) ≤ 60; omega⟩
theorem names_app (cars : List Car) (c : Car) : names (cars ++ [c]) = names cars ++ [c.name] := by unfold names; rw [List.map_append]; rfl
theorem join_ok {cars : List Car} (CO : CarsOk cars) {c : Car} (hc : c.Ok) (hn : c.name ∉ names cars) (h : cars.length ≠ 10) : CarsOk (cars ++ [c]) where
  all := fun d hd => by
    rcases List.mem_append.mp hd with h | h
    · exact CO.all d h
    · rw [List.mem_singleton.mp h]; exact hc
  nd := by
    have e := names_app cars c
    unfold names at e
    rw [e]
    refine List.nodup_append.mpr ⟨CO.nd, by simp, fun a ha b hb => ?_⟩
    rw [List.mem_singleton.mp hb]
    intro z
    exact hn (z ▸ ha)
  few := by
    have := CO.few
    rw [List.length_append]
    show cars.length + 1 ≤ 10
    omega
theorem step_join (S : St2) (n : Str) (s p : Nat) : stepO S (.join n s p) = if n ∈ names S.2 then .inl .name else if S.2.length = 10 then .inl .many else .inr ((S.1, S.2 ++ [newC n s p]), .tick (arrL (S.1, S.2 ++ [newC n s p]) n)) := rfl
theorem step_rem (S : St2) (n : Str) : stepO S (.rem n) = if n ∈ names S.2 then .inr ((S.1, lessC S.2 n), chgX S (S.1, lessC S.2 n)) else .inl (.car n) := rfl
theorem step_ok {S S' : St2} {o : Op} {r : Rs} (h : StOk S) (ho : OpOk S o) (e : stepO S o = .inr (S', r)) : StOk S' := by
  cases o with
  | join n s p =>
    obtain ⟨h1, _, h3, h4, h5⟩ := ho
    rw [step_join] at e
    by_cases hn : n ∈ names S.2
    · rw [if_pos hn] at e
      cases e
    · rw [if_neg hn] at e
      by_cases hl : S.2.length = 10
      · rw [if_pos hl] at e
        cases e
      · rw [if_neg hl] at e
        have e := Sum.inr.inj e
        rw [← (Prod.mk.inj e).1]
        exact ⟨h.so, join_ok h.co (newC_ok h1 h3 h4 h5) hn hl⟩
  | rem n =>
    rw [step_rem] at e
    by_cases hn : n ∈ names S.2
    · rw [if_pos hn] at e
      have e := Sum.inr.inj e
      rw [← (Prod.mk.inj e).1]
      exact ⟨h.so, less_ok h.co n⟩
    · rw [if_neg hn] at e
      cases e
  | kind i b =>
    have e := Sum.inr.inj e
    rw [← (Prod.mk.inj e).1]
    exact ⟨setK_ok h.so ho b, h.co⟩
section
variable {P : Program} {w : World} {K : PySem.W.Frag} {mg : Str → Option Value} {base : Heap}
def nKnown : List Str := ["cars", "name", "known", "start", "pace"]
theorem scKnown : FnScope nKnown ["cars", "name"] (defScope sCheckKnown) := ⟨rfl, rfl, rfl, by decide +kernel, rfl, by decide +kernel, by decide +kernel⟩
/-! ### UnknownCar(name) -/
def spUInit (C : Addr) : Sp := fun vs H Q _ => ∃ (a : Addr) (v : V), vs = [.ref a, v] ∧ H a = some (exo a C none) ∧ ∀ dx, H dx = none → dx ≠ a → Q .non (upd (upd H dx (exd dx [("name", v)])) a (exo a C (some dx)))
def nUInit : List Str := ["self", "name"]
theorem scUInit : FnScope nUInit ["self", "name"] (defScope sUnknownCarInit) := ⟨rfl, rfl, rfl, by decide +kernel, rfl, by decide +kernel, by decide +kernel⟩
theorem ok_uInit {f C : Addr} {fd : FuncData} (F : Fun K "__init__" "UnknownCar.__init__" sUnknownCarInit f fd) (T : OexC K C) (hno : PySem.W.findIn K (.ref C) "name" = some none) : FnOk P w K mg base CX0 1 f fd ["self", "name"] (spUInit C) := by
  refine F.ok scUInit (fun vs H Q E h => ?_) (fun cdv A outer s H vs Q E hr h => ?_)
  · obtain ⟨a, v, rfl, _⟩ := h
    rfl
  · obtain ⟨a, v, rfl, ha, k⟩ := h
    have nd := scUInit.nd
    refine ⟨_, pss_one (ps_ost (pv 0) (pv 1)), ?_⟩
    exact ⟨_, rfl, _, rfl, a, C, rfl, T, hno, .inl ⟨ha, fun dx h1 h2 => k dx h1 h2⟩⟩
/-- an own class of errors with an __init__ of its own -/
structure ErrO (P : Program) (w : World) (K : PySem.W.Frag) (mg : Str → Option Value) (base : Heap) (x : Str) (C : Addr) : Prop where
  T : OexC K C
  g : mg x = some (.ref C)
  init : ∃ fI fd ps, PySem.W.findIn K (.ref C) "__init__" = some (some (.ref fI)) ∧ PySem.W.typeIn K (.ref fI) = some (.type "function") ∧ Binds K fd ps [] ∧ FnOk P w K mg base CX0 1 fI fd ps (spUInit C)
/-! ### check_known, of anything -/
/-- the error that it raises -/
def KnE (CU : Addr) (n : Str) (H : Hp) (E : XK) : Prop := ∀ H' d fs, Same H H' → H' d = some (.xd fs) → fs.lookup ("name" : Str) = some (.str n) → E (.ref CU) (some d) H'
def spKnownX (CU : Addr) : Sp := fun vs H Q E => ∃ (a : Addr) (cars : List Car) (n : Str), vs = [.ref a, .str n] ∧ CarsAt H a cars ∧ CarsOk cars ∧ (n ∈ names cars → ∀ H', Same H H' → Q .non H') ∧ (n ∉ names cars → KnE CU n H E)
theorem ok_knownX {f CU : Addr} {fd : FuncData} (F : Fun K "check_known" "check_known" sCheckKnown f fd) (W : ErrO P w K mg base "UnknownCar" CU) : FnOk P w K mg base (L2.CX P w) 3 f fd ["cars", "name"] (spKnownX CU) := by
  refine F.okX scKnown (fun vs H Q E h => ?_) (fun cdv A outer s H vs Q E hr h => ?_)
  · obtain ⟨a, cars, n, rfl, _⟩ := h
    rfl
  · obtain ⟨a, cars, n, rfl, hC, CO, k, kE⟩ := h
    have nd := scKnown.nd
    obtain ⟨fI, dI, ps, w1, w2, w3, w4⟩ := W.init
    refine ⟨_, pss_one (ps_if (PT.nox (pt_cmpR op_notIn_seq (pv 1) (pe_lc (own := [("known", 2), ("start", 3), ("pace", 4)]) (g := gTup K 3 (gCons (gName 2) (gCons (gName 3) (gCons (gName 4) gNil)))) (tt := tYes) (te := tVar 2) (by rfl) nd (pi_tup (pv 0)) (blkOk_by (N := nKnown) (sc := defScope sCheckKnown) (by decide +kernel))
          (fun _ _ _ _ _ => pg_tup rfl (pgs_cons (pg_name (i := 2) nd rfl (Or.inl rfl)) (pgs_cons (pg_name (i := 3) nd rfl (Or.inl rfl)) (pgs_cons (pg_name (i := 4) nd rfl (Or.inl rfl)) pgs_nil)))) (fun _ _ _ _ _ => pts_nil) (fun _ _ _ _ _ => pv 2)) (by rfl)))
      (pss_one (ps_raise rfl (takes_of rfl rfl rfl rfl) (pmk_oex W.T w1 w2 w4 hr w3 .nil pass0 (by rfl) W.g (pa_cons (pv 1) pa_nil)))) pss_nil), ?_⟩
    obtain ⟨ts, h1, h2, h3⟩ := hC
    have hl : (ts.map V.ref).length = cars.length := by rw [List.length_map, h2]
    refine ⟨_, rfl, _, rfl, a, rfl, ⟨_, SqT.of h1⟩, fun D hD => ?_⟩
    refine lc_it walk_tup (fun i H1 => Same H H1 ∧ H1 D = some (.lst (((cars.take i).map (·.name)).map V.str)))
      ⟨sameNew hD _, upd_same⟩ (fun i H1 _ ⟨k1, _⟩ => SqT.of (k1 _ _ h1)) ?_ ?_
    · rintro i y Hz H1 hi ⟨k1, hD1⟩ ⟨e, hy⟩
      subst e
      obtain ⟨t, ht, rfl⟩ : ∃ t, ts[i]? = some t ∧ y = V.ref t := by
        rw [List.getElem?_map] at hy
        obtain ⟨t, z1, z2⟩ := Option.map_eq_some_iff.mp hy
        exact ⟨t, z1, z2.symm⟩
      rw [hl] at hi
      obtain ⟨c, hc⟩ : ∃ c, cars[i]? = some c := ⟨_, List.getElem?_eq_getElem hi⟩
      have few := CO.few
      refine ⟨t, _, rfl, SqT.of (k1 _ _ (h3 i t c ht hc)), rfl, _, _, rfl, _, _, rfl, _, _, rfl, rfl, rfl, yes_of ?_⟩
      refine ⟨_, rfl, _, hD1, by rw [List.length_map, List.length_map, List.length_take]; exact small1000 (by omega), fun b o e => by rw [upd_ne (ne_of_none e hD)]; exact k1 _ _ e, ?_⟩
      rw [upd_same, tk1 hc, List.map_append, List.map_append]
      rfl
    · rintro H1 ⟨k1, hD1⟩
      rw [hl, List.take_length] at hD1
      refine ⟨D, _, rfl, .inl (SqL.of hD1), rfl, flat_strs _, _, rfl, ?_⟩
      by_cases hn : n ∈ names cars
      · have : inV (V.str n) ((cars.map (·.name)).map V.str) = true := by rw [inV_str]; exact decide_eq_true hn
        rw [this]
        exact iteF (k hn _ k1)
      · have : inV (V.str n) ((cars.map (·.name)).map V.str) = false := by rw [inV_str]; exact decide_eq_false hn
        rw [this]
        refine iteT ⟨_, rfl, by show 1 ≤ 1000; decide, fun a2 ha2 => ⟨a2, .str n, rfl, upd_same, fun dx hdx ne => ⟨rfl, dx, [("name", V.str n)], upd_same, ?_, ?_, ?_⟩⟩⟩
        · rw [upd_ne ne, upd_same]
        · rw [upd_ne ne] at hdx
          exact hdx
        · have hdx1 : H1 dx = none := by rw [upd_ne ne] at hdx; exact hdx
          refine kE hn _ dx [("name", V.str n)] (fun b o e => ?_) upd_same rfl
          have nb : b ≠ dx := fun z => by rw [z] at e; have := k1 _ _ e; rw [hdx1] at this; cases this
          have na : b ≠ a2 := fun z => by rw [z] at e; have := k1 _ _ e; rw [ha2] at this; cases this
          rw [upd_ne nb, del_ne na, upd_ne na, upd_ne nb, upd_ne na]
          exact k1 _ _ e
/-! ### check_new_name, of a name that may be in use -/
def spNewNameX (CNm : Addr) : Sp := fun vs H Q E => ∃ (a : Addr) (cars : List Car) (n : Str), vs = [.ref a, .str n] ∧ CarsAt H a cars ∧ CarsOk cars ∧ NameOk n ∧ (n ∉ names cars → ∀ H', Same H H' → Q .non H') ∧ (n ∈ names cars → ∀ H', Same H H' → E (.ref CNm) none H')
def nNewName : List Str := ["cars", "name", "known", "start", "pace"]
theorem scNewName : FnScope nNewName ["cars", "name"] (defScope sCheckNewName) := ⟨rfl, rfl, rfl, by decide +kernel, rfl, by decide +kernel, by decide +kernel⟩
theorem ok_newNameX {f fN CNm : Addr} {fd dN : FuncData} (F : Fun K "check_new_name" "check_new_name" sCheckNewName f fd) (EN : ErrT K mg "InvalidName" CNm) (BN : Fb K mg "is_name" sIsName ["value"] fN dN) (GN : FnOk P w K mg base CX0 1 fN dN ["value"] spIsName) : FnOk P w K mg base (L2.CX P w) 2 f fd ["cars", "name"] (spNewNameX CNm) := by
  refine F.okX scNewName (fun vs H Q E h => ?_) (fun cdv A outer s H vs Q E hr h => ?_)
  · obtain ⟨a, cars, n, rfl, _⟩ := h
    rfl
  · obtain ⟨a, cars, n, rfl, hC, CO, ho, k, kE⟩ := h
    have nd := scNewName.nd
    refine ⟨_, pss_one (ps_if (PT.nox (PW.pt (pw_or (pt_not (pt_val (pe_call GN hr (by rfl) BN.at_ BN.fn.kp BN.bd .nil pass0 (pa_cons (pv 1) pa_nil)))) (pw_or1 (pt_cmpR op_in_seq (pv 1) (pe_lc (own := [("known", 2), ("start", 3), ("pace", 4)]) (g := gTup K 3 (gCons (gName 2) (gCons (gName 3) (gCons (gName 4) gNil)))) (tt := tYes) (te := tVar 2) (by rfl) nd (pi_tup (pv 0)) (blkOk_by (N := nNewName) (sc := defScope sCheckNewName) (by decide +kernel))
          (fun _ _ _ _ _ => pg_tup rfl (pgs_cons (pg_name (i := 2) nd rfl (Or.inl rfl)) (pgs_cons (pg_name (i := 3) nd rfl (Or.inl rfl)) (pgs_cons (pg_name (i := 4) nd rfl (Or.inl rfl)) pgs_nil)))) (fun _ _ _ _ _ => pts_nil) (fun _ _ _ _ _ => pv 2)) (by rfl)))))) (pss_one (ps_raise rfl (takes_of rfl rfl rfl rfl) (pmk_errT EN (by rfl)))) pss_nil), ?_⟩
    obtain ⟨ts, h1, h2, h3⟩ := hC
    have hl : (ts.map V.ref).length = cars.length := by rw [List.length_map, h2]
    refine ⟨_, rfl, n, rfl, ho, fun H0 s0 => ⟨true, rfl, iteF ?_⟩⟩
    have h1 := s0 _ _ h1
    refine ⟨_, rfl, _, rfl, a, rfl, ⟨_, SqT.of h1⟩, fun D hD => ?_⟩
    refine lc_it walk_tup (fun i H1 => Same H0 H1 ∧ H1 D = some (.lst (((cars.take i).map (·.name)).map V.str)))
      ⟨sameNew hD _, upd_same⟩ (fun i H1 _ ⟨k1, _⟩ => SqT.of (k1 _ _ h1)) ?_ ?_
    · rintro i y Hz H1 hi ⟨k1, hD1⟩ ⟨e, hy⟩
      subst e
      obtain ⟨t, ht, rfl⟩ : ∃ t, ts[i]? = some t ∧ y = V.ref t := by
        rw [List.getElem?_map] at hy
        obtain ⟨t, z1, z2⟩ := Option.map_eq_some_iff.mp hy
        exact ⟨t, z1, z2.symm⟩
      rw [hl] at hi
      obtain ⟨c, hc⟩ : ∃ c, cars[i]? = some c := ⟨_, List.getElem?_eq_getElem hi⟩
      have few := CO.few
      refine ⟨t, _, rfl, SqT.of (k1 _ _ (s0 _ _ (h3 i t c ht hc))), rfl, _, _, rfl, _, _, rfl, _, _, rfl, rfl, rfl, yes_of ?_⟩
      refine ⟨_, rfl, _, hD1, by rw [List.length_map, List.length_map, List.length_take]; exact small1000 (by omega), fun b o e => by rw [upd_ne (ne_of_none e hD)]; exact k1 _ _ e, ?_⟩
      rw [upd_same, tk1 hc, List.map_append, List.map_append]
      rfl
    · rintro H1 ⟨k1, hD1⟩
      rw [hl, List.take_length] at hD1
      refine ⟨D, _, rfl, .inl (SqL.of hD1), rfl, flat_strs _, ?_⟩
      by_cases hn : n ∈ names cars
      · have : inV (V.str n) ((cars.map (·.name)).map V.str) = true := by rw [inV_str]; exact decide_eq_true hn
        rw [this]
        exact ⟨true, rfl, iteT (kE hn _ (s0.trans k1))⟩
      · have : inV (V.str n) ((cars.map (·.name)).map V.str) = false := by rw [inV_str]; exact decide_eq_false hn
        rw [this]
        exact ⟨false, rfl, iteF (k hn _ (s0.trans k1))⟩
end
end Sl

set_option Elab.async false
set_option linter.all false
set_option maxRecDepth 100000
set_option maxHeartbeats 1000000
namespace Sl
open PySem PySem.Spec L2 OwnR LamX
/-- an instance is called -/
def InsH (H : Hp) (a C : Addr) : Prop := (∃ dx vs, SlX.Slt H a C dx vs) ∨ ∃ dx fs, H a = some (.ins C dx fs)
def tCallH (C : Addr) (sp : Sp) (E : XK) (tf : TE) (t : TA) : TE := fun σ H Q => tf σ H fun y H1 => ∃ a, y = V.ref a ∧ t σ H1 fun vs H2 => InsH H2 a C ∧ sp (V.ref a :: vs) H2 Q E
theorem pe_callH {X : Cx} {CX : CXT} {k : Nat} {C : Addr} {sp : Sp} {E : XK} {e fe : Expr} {es : List Expr} {tf : TE} {t : TA} {pos : Pos} {g : Addr} (hf : PE X fe tf) (c : StX.CallO X.K C g) (F : FnR X.prog X.w X.K X.mg X.base CX k g sp) (hr : Room k X.A) (hx : Passes CX X E) (ha : PA X (e :: es) t)
    (ht : eval (.Call fe (e :: es) [] pos) X.env = (do callWith pos (← eval fe X.env) [] (backTo pos (starEach (e :: es) X.env)) (backToKw pos (keywordEach [] X.env))) := by rfl)
    (he : starEach (e :: es) X.env = (false, eval e X.env) :: starEach es X.env := by rfl) (hpl : (backTo pos (starEach es X.env)).any (·.1) = false := by rfl) : PE X (.Call fe (e :: es) [] pos) (tCallH C sp E tf t) := StX.pe_callO hf c F hr hx ha ht he hpl
end Sl

set_option Elab.async false
set_option linter.all false
set_option maxRecDepth 100000
set_option maxHeartbeats 2000000
namespace Sl
open PySem PySem.Spec L2 OwnR LamX
/-! ### dicts of arrivals, dicts of changes -/
def arrK (S : St2) : List (Key × V) := S.2.map fun c => (Sum.inr c.name, V.int (arrL S c.name))
theorem arrK_get {S : St2} (nd : (names S.2).Nodup) {n : Str} (h : n ∈ names S.2) : valV (arrK S) (Sum.inr n : Key) = some (.int (arrL S n)) := by
  obtain ⟨c, hc, rfl⟩ := List.mem_map.mp h
  exact valV_names (g := fun c => V.int (arrL S c.name)) nd hc
theorem gS {H : Hp} {a : Addr} {kvs : List (Key × V)} {n : Str} {v : V} (e : H a = some (.dK kvs)) (h : valV kvs (Sum.inr n : Key) = some v) : DGet H a (.str n) (some v) := by
  have := DGet.k (k := (Sum.inr n : Key)) e
  rw [h] at this
  exact this
def PairsAt (H : Hp) (d : Addr) (ns : List Str) (g : Str → Int × Int) : Prop := ∃ ts : List Addr, H d = some (.dK ((ns.zip ts).map fun q => ((Sum.inr q.1 : Key), V.ref q.2))) ∧ ts.length = ns.length ∧ ∀ (i : Nat) (t : Addr) (m : Str), ts[i]? = some t → ns[i]? = some m → H t = some (.tup [.int (g m).1, .int (g m).2])
theorem PairsAt.ext {H H' : Hp} {d : Addr} {ns : List Str} {g : Str → Int × Int} (h : PairsAt H d ns g) (e : ExtN H H') : PairsAt H' d ns g := by
  obtain ⟨ts, h1, h2, h3⟩ := h
  exact ⟨ts, e _ _ h1 (fun _ z => nomatch z), h2, fun i t m e1 e2 => ExtN.tup e (h3 i t m e1 e2)⟩
theorem zip_snoc {α β : Type} {l : List α} {r : List β} {x : α} {y : β} (h : l.length = r.length) : (l ++ [x]).zip (r ++ [y]) = l.zip r ++ [(x, y)] := by
  rw [List.zip_append h]
  rfl
theorem put_new {ns : List Str} {ts : List Addr} {m : Str} {v : V} (h : ts.length = ns.length) (hm : m ∉ ns) : putK ((ns.zip ts).map fun q => ((Sum.inr q.1 : Key), V.ref q.2)) (Sum.inr m : Key) v = ((ns.zip ts).map fun q => ((Sum.inr q.1 : Key), V.ref q.2)) ++ [((Sum.inr m : Key), v)] := by
  refine putK_new _ ?_
  induction ns generalizing ts with
  | nil => rfl
  | cons a l ih =>
    cases ts with
    | nil => rfl
    | cons t r =>
      have hne : ¬ (Sum.inr a : Key) = Sum.inr m := fun z => hm (by rw [Sum.inr.inj z]; exact List.mem_cons_self)
      show valV (((Sum.inr a : Key), V.ref t) :: ((l.zip r).map fun q => ((Sum.inr q.1 : Key), V.ref q.2))) _ = none
      rw [valV_neg hne]
      exact ih (by simpa using h) fun z => hm (List.mem_cons_of_mem _ z)
/-- one more pair -/
theorem PairsAt.snoc {H : Hp} {d t : Addr} {ns : List Str} {g : Str → Int × Int} {m : Str} (h : PairsAt H d ns g) (hm : m ∉ ns) (ht : H t = some (.tup [.int (g m).1, .int (g m).2])) : ∃ kv, H d = some (.dK kv) ∧ kv.length = ns.length ∧ PairsAt (upd H d (.dK (putK kv (Sum.inr m : Key) (.ref t)))) d (ns ++ [m]) g := by
  obtain ⟨ts, h1, h2, h3⟩ := h
  refine ⟨_, h1, by rw [List.length_map, List.length_zip, h2, Nat.min_self], ts ++ [t], by rw [upd_same, put_new h2 hm, zip_snoc h2.symm, List.map_append]; rfl, by rw [List.length_append, List.length_append, h2]; rfl, fun i t' m' e1 e2 => ?_⟩
  rcases snoc_get e1 with e1 | ⟨hq, rfl⟩
  · have hql := (List.getElem?_eq_some_iff.mp e1).1
    rw [List.getElem?_append_left (by omega)] at e2
    have q := h3 i t' m' e1 e2
    rw [upd_ne (ne_of q h1 (by intro z; cases z))]
    exact q
  · rw [List.getElem?_append_right (by omega), hq, h2, Nat.sub_self] at e2
    have : m = m' := by simpa using e2
    rw [upd_ne (ne_of ht h1 (by intro z; cases z)), ← this]
    exact ht
/-- nothing stood there, but for a table -/
def NewA (H : Hp) (d : Addr) : Prop := ∀ o, H d = some o → ∃ ps, o = .tbl ps
theorem NewA.of {H H1 : Hp} {d : Addr} (e : ExtN H H1) (h : H1 d = none) : NewA H d := fun o q => by
  by_cases hb : ∃ ps, o = .tbl ps
  · exact hb
  · have := e _ _ q (fun ps z => hb ⟨ps, z⟩)
    rw [h] at this
    cases this
theorem NewA.ext {H H1 : Hp} {d : Addr} (e : ExtN H H1) (h : NewA H1 d) : NewA H d := fun o q => by
  by_cases hb : ∃ ps, o = .tbl ps
  · exact hb
  · exact h o (e _ _ q (fun ps z => hb ⟨ps, z⟩))
theorem NewA.ne {H : Hp} {a d : Addr} {o : HO} (h : NewA H d) (e : H a = some o) (n : ∀ ps, o ≠ .tbl ps) : a ≠ d := fun z => by
  obtain ⟨ps, q⟩ := h o (z ▸ e)
  exact n ps q
section
variable {P : Program} {w : World} {K : PySem.W.Frag} {mg : Str → Option Value} {base : Heap}
theorem mk_drive {CR C : Addr} {T : List (Addr × Str)} {H : Hp} {p a dv dx : Addr} {secs : List Sec} {cars : List Car} (rd : RoadAt CR H p secs) (ct : CarsAt H a cars) (SO : SecsOk secs) (CO : CarsOk cars) (hT : Tabs T H) (hdv : H dv = none) (hdx : H dx = none) {Q : VK} {E : XK}
    (k : ∀ H', ExtN H H' → Tabs T H' → DA C H' dv secs cars → Q .non H') : spDInit CR C T [.ref dv, .ref p, .ref a] (upd (upd H dx (.own dv)) dv (.ins C dx [])) Q E := by
  have S2 : Same H (upd (upd H dx (.own dv)) dv (.ins C dx [])) := fun b o e => by rw [upd_ne (ne_of_none e hdv), upd_ne (ne_of_none e hdx)]; exact e
  exact ⟨H, dv, dx, p, a, secs, cars, rfl, upd_same, S2, hdv, rd, ct, SO, CO, hT, fun H' W DW T' => k H' DW.ext T' ⟨_, W, DW⟩⟩
/-! ### _arrivals -/
abbrev spCallR1 (C : Addr) : Sp := fun vs H Q E => spCallD C (vs ++ [V.non]) H Q E
def spArrs (CR : Addr) (T : List (Addr × Str)) : Sp := fun vs H Q _ => ∃ (p a : Addr) (S : St2), vs = [.ref p, .ref a] ∧ RoadAt CR H p S.1 ∧ CarsAt H a S.2 ∧ StOk S ∧ Tabs T H ∧ ∀ H' d, ExtN H H' → Tabs T H' → NewA H d → H' d = some (.dK (arrK S)) → Q (.ref d) H'
def nArrs : List Str := ["road", "cars", "drive", "name", "start", "pace"]
theorem scArrs : FnScope nArrs ["road", "cars"] (defScope sArrivals) := ⟨rfl, rfl, rfl, by decide +kernel, rfl, by decide +kernel, by decide +kernel⟩
theorem ok_arrs {f fI fQ CR C : Addr} {fd dI dQ : FuncData} {dvs : List Value} {T : List (Addr × Str)} (F : Fun K "_arrivals" "_arrivals" sArrivals f fd) (R : DriveT K mg C) (MI : Mk K C fI) (bI : Binds K dI ["self", "road", "cars"] []) (GI : FnOk P w K mg base CX0 5 fI dI ["self", "road", "cars"] (spDInit CR C T))
    (CO2 : StX.CallO K C fQ) (bC1 : Binds K dQ ["self", "name", "place"] dvs) (vC : Vals [V.non] dvs) (GQ : FnOk P w K mg base CX0 3 fQ dQ ["self", "name", "place"] (spCallD C)) : FnOk P w K mg base CX0 7 f fd ["road", "cars"] (spArrs CR T) := by
  refine F.ok scArrs (fun vs H Q E h => ?_) (fun cdv A outer s H vs Q E hr h => ?_)
  · obtain ⟨p, a, S, rfl, _⟩ := h
    rfl
  · obtain ⟨p, a, S, rfl, rd, ct, ok, hT, k⟩ := h
    have nd := scArrs.nd
    have hr3 : Room 3 (A.deeper (PyProof.Rows.envOfC "_arrivals" (defScope sArrivals) s.heap.objs.size f cdv)) := hr.mono (by decide)
    refine ⟨_, pss_cons (ps_set (i := 2) nd rfl (.inr rfl) (pe_make MI GI hr (by rfl) R.mgC bI .nil pass0 (pa_cons (pv 0) (pa_cons (pv 1) pa_nil))))
      (pss_one (ps_ret (pe_dc (own := [("name", 3), ("start", 4), ("pace", 5)]) (g := gTup K 3 (gCons (gName 3) (gCons (gName 4) (gCons (gName 5) gNil)))) (tt := tYes) (tk := tVar 3) (tv := tCallH C (spCallR1 C) L2.E0 (tVar 2) (tCons (tVar 3) tNil)) (by rfl) nd (pi_tup (pv 1)) (blkOk_by (N := nArrs) (sc := defScope sArrivals) (by decide +kernel))
          (fun _ _ _ _ _ => pg_tup rfl (pgs_cons (pg_name (i := 3) nd rfl (Or.inl rfl)) (pgs_cons (pg_name (i := 4) nd rfl (Or.inl rfl)) (pgs_cons (pg_name (i := 5) nd rfl (Or.inl rfl)) pgs_nil)))) (fun _ _ _ _ _ => pts_nil) (fun _ _ _ _ _ => pv 3)
          (fun _ _ _ _ _ => pe_callH (pv 2) CO2 (GQ.raw bC1 vC) hr3 pass0 (pa_cons (pv 3) pa_nil))))), ?_⟩
    refine ⟨_, rfl, _, rfl, fun dv dx hdv hdx ndx => mk_drive rd ct ok.so ok.co hT hdv hdx fun H1 e1 T1 da1 => ⟨rfl, ?_⟩⟩
    have ct1 := ct.ext e1
    obtain ⟨ts, h1, h2, h3⟩ := id ct1
    have hl : (ts.map V.ref).length = S.2.length := by rw [List.length_map, h2]
    have ndn : (names S.2).Nodup := ok.co.nd
    have few := ok.co.few
    refine ⟨_, rfl, a, rfl, ⟨_, SqT.of h1⟩, fun D hD => ?_⟩
    refine dc_it walk_tup (fun i H2 => Same H1 H2 ∧ H2 D = some (.dK ((S.2.take i).map fun c => ((Sum.inr c.name : Key), V.int (arrL S c.name))))) ⟨sameNew hD _, upd_same⟩ (fun i H2 _ ⟨k2, _⟩ => SqT.of (k2 _ _ h1)) ?_ ?_
    · rintro i y Hz H2 hi ⟨k2, hD2⟩ ⟨e, hy⟩
      subst e
      obtain ⟨t, ht, rfl⟩ : ∃ t, ts[i]? = some t ∧ y = V.ref t := by
        rw [List.getElem?_map] at hy
        obtain ⟨t, z1, z2⟩ := Option.map_eq_some_iff.mp hy
        exact ⟨t, z1, z2.symm⟩
      rw [hl] at hi
      obtain ⟨c, hc⟩ : ∃ c, S.2[i]? = some c := ⟨_, List.getElem?_eq_getElem hi⟩
      have da2 := da1.ext (ExtN.same k2)
      obtain ⟨_, W2, D2⟩ := id da2
      have hm : c.name ∈ names S.2 := List.mem_map_of_mem (List.mem_of_getElem? hc)
      refine ⟨t, _, rfl, SqT.of (k2 _ _ (h3 i t c ht hc)), rfl, _, _, rfl, _, _, rfl, _, _, rfl, rfl, rfl, yes_of ?_⟩
      refine ⟨_, rfl, _, rfl, dv, rfl, _, rfl, .inr ⟨_, _, D2.ins⟩, dv, S.1, S.2, c.name, S.1.length, .non, rfl, da2, hm, Nat.le_refl _, .inl ⟨rfl, rfl⟩, ?_⟩
      refine ⟨_, Sum.inr c.name, rfl, hD2, by rw [List.length_map, List.length_take]; exact small1000 (by omega), fun b o e => by rw [upd_ne (ne_of_none e hD)]; exact k2 _ _ e, ?_⟩
      rw [upd_same, ← put_car (g := fun c => V.int (arrL S c.name)) ndn hc]
      rfl
    · rintro H2 ⟨k2, hD2⟩
      rw [hl, List.take_length] at hD2
      exact k H2 D (e1.trans (ExtN.same k2)) (T1.ext k2) (NewA.of e1 hD) hD2
/-! ### _changes -/
def spChanges : Sp := fun vs H Q _ => ∃ (b c : Addr) (S S' : St2), vs = [.ref b, .ref c] ∧ H b = some (.dK (arrK S)) ∧ H c = some (.dK (arrK S')) ∧ b ≠ c ∧ (∀ n ∈ names S'.2, n ∈ names S.2) ∧ (names S.2).Nodup ∧ (names S'.2).Nodup ∧ S'.2.length ≤ 10 ∧ ∀ H' d, Same H H' → H d = none → PairsAt H' d (chgN S S') (fun n => (arrL S n, arrL S' n)) → Q (.ref d) H'
def nChanges : List Str := ["before", "after", "name", "arrival"]
theorem scChanges : FnScope nChanges ["before", "after"] (defScope sChanges) := ⟨rfl, rfl, rfl, by decide +kernel, rfl, by decide +kernel, by decide +kernel⟩
theorem ok_changes {f : Addr} {fd : FuncData} (F : Fun K "_changes" "_changes" sChanges f fd) : FnOk P w K mg base CX0 1 f fd ["before", "after"] spChanges := by
  refine F.ok scChanges (fun vs H Q E h => ?_) (fun cdv A outer s H vs Q E hr h => ?_)
  · obtain ⟨b, c, S, S', rfl, _⟩ := h
    rfl
  · obtain ⟨b, c, S, S', rfl, hb, hc, nbc, sub, nd1, nd2, few, k⟩ := h
    have nd := scChanges.nd
    have hu := hu_of hr
    refine ⟨_, pss_one (ps_ret (pe_lock (pe_dc (own := [("name", 2), ("arrival", 3)]) (g := gTup K 2 (gCons (gName 2) (gCons (gName 3) gNil))) (tt := tTest (tOp rNe (tDGet (tVar 0) (tVar 2)) (tVar 3)))
          (tk := tVar 2) (tv := tTup (tCons (tDGet (tVar 0) (tVar 2)) (tCons (tVar 3) tNil)))
          (by rfl) nd (pi_items (pv 1)) (blkOk_by (N := nChanges) (sc := defScope sChanges) (by decide +kernel))
          (fun _ _ _ _ _ => pg_tup rfl (pgs_cons (pg_name (i := 2) nd rfl (Or.inl rfl)) (pgs_cons (pg_name (i := 3) nd rfl (Or.inl rfl)) pgs_nil))) (fun _ _ _ _ _ => pts_one (pt_cmpR op_ne (pe_dget hu (pv 0) (pv 2) (fun _ _ => rfl)) (pv 3) (nomark _))) (fun _ _ _ _ _ => pv 2)
          (fun _ _ _ _ _ => pe_tup (pa_cons (pe_dget hu (pv 0) (pv 2) (fun _ _ => rfl)) (pa_cons (pv 3) pa_nil)))))), ?_⟩
    refine ⟨c, _, hc, True.intro, fun od => ?_⟩
    have np : ∀ x o, H x = some o → x ≠ c → upd H c (.frz od (.dK (arrK S'))) x = some o := fun x o e n => by rw [upd_ne n]; exact e
    have hz : upd H c (.frz od (.dK (arrK S'))) c = some (.frz od (.dK (arrK S'))) := upd_same
    generalize upd H c (.frz od (.dK (arrK S'))) = H2 at np hz ⊢
    refine ⟨_, rfl, c, od, _, rfl, hz, fun D hD => ?_⟩
    have nD : c ≠ D := ne_of_none hz hD
    have eln : (arrK S').length = S'.2.length := by unfold arrK; rw [List.length_map]
    refine dc_it walk_items (fun i H3 => (∀ x o, H x = some o → x ≠ c → H3 x = some o) ∧ H3 c = some (.frz od (.dK (arrK S'))) ∧ PairsAt H3 D (((names S'.2).take i).filter fun n => decide (arrL S n ≠ arrL S' n)) (fun n => (arrL S n, arrL S' n)))
      ⟨fun x o e n => by rw [upd_ne (ne_of_none (np _ _ e n) hD)]; exact np _ _ e n, by rw [upd_ne nD]; exact hz, [], upd_same, rfl, fun _ _ _ z => nomatch z⟩ (fun i H3 _ ⟨_, q, _⟩ => q) ?_ ?_
    · rintro i y H3 H4 hi ⟨k3, z3, d3⟩ ⟨T, x1, x2, rfl, hT, rfl, e1, e2⟩
      have hic : i < S'.2.length := by rw [eln] at hi; exact hi
      obtain ⟨q, hq⟩ : ∃ q, S'.2[i]? = some q := ⟨_, List.getElem?_eq_getElem hic⟩
      have hk : (arrK S')[i]? = some (Sum.inr q.name, V.int (arrL S' q.name)) := by unfold arrK; rw [List.getElem?_map, hq]; rfl
      have e1 : ((arrK S')[i]?).map (fun kv => kV kv.1) = some x1 := e1
      have e2 : ((arrK S')[i]?).map Prod.snd = some x2 := e2
      rw [hk] at e1 e2
      have e1' : x1 = V.str q.name := (Option.some.inj e1).symm
      have e2' : x2 = V.int (arrL S' q.name) := (Option.some.inj e2).symm
      subst e1' e2'
      have s4 := sameNew hT (.tup [V.str q.name, V.int (arrL S' q.name)])
      have hm : q.name ∈ names S'.2 := List.mem_map_of_mem (List.mem_of_getElem? hq)
      have hni : (names S'.2)[i]? = some q.name := by unfold names; rw [List.getElem?_map, hq]; rfl
      refine ⟨T, _, rfl, SqT.of upd_same, rfl, _, _, rfl, _, _, rfl, rfl, rfl, ?_⟩
      have k4 : ∀ x o, H x = some o → x ≠ c → upd H3 T (.tup [V.str q.name, V.int (arrL S' q.name)]) x = some o := fun x o e n => s4 _ _ (k3 x o e n)
      have z4 := s4 _ _ z3
      have d4 := d3.ext (ExtN.same s4)
      generalize upd H3 T (.tup [V.str q.name, V.int (arrL S' q.name)]) = H5 at k4 z4 d4 ⊢
      have gb := gS (k4 _ _ hb nbc) (arrK_get nd1 (sub _ hm))
      refine ⟨_, rfl, _, rfl, b, _, rfl, gb, _, rfl, rfl, _, rfl, ?_⟩
      have en : ((names S'.2).take (i + 1)).filter (fun n => decide (arrL S n ≠ arrL S' n)) = ((names S'.2).take i).filter (fun n => decide (arrL S n ≠ arrL S' n)) ++ if arrL S q.name ≠ arrL S' q.name then [q.name] else [] := by
        rw [tk1 hni, List.filter_append]
        by_cases g : arrL S q.name ≠ arrL S' q.name
        · rw [if_pos g, List.filter_cons_of_pos (by simpa using g)]; rfl
        · rw [if_neg g, List.filter_cons_of_neg (by simpa using g)]; rfl
      by_cases g : arrL S q.name = arrL S' q.name
      · rw [show (!decide (V.int (arrL S q.name) = V.int (arrL S' q.name))) = false by rw [decide_eq_true (congrArg V.int g)]; rfl]
        refine iteF ⟨k4, z4, ?_⟩
        rw [en, if_neg (fun z => z g), List.append_nil]
        exact d4
      · rw [show (!decide (V.int (arrL S q.name) = V.int (arrL S' q.name))) = true by rw [decide_eq_false (fun z => g (V.int.inj z))]; rfl]
        refine iteT ⟨_, rfl, _, rfl, _, rfl, b, _, rfl, gb, _, rfl, by show 2 ≤ sizeLine; decide, fun u hu6 => ?_⟩
        have s6 := sameNew hu6 (.tup [V.int (arrL S q.name), V.int (arrL S' q.name)])
        have hnew : q.name ∉ ((names S'.2).take i).filter fun n => decide (arrL S n ≠ arrL S' n) := fun z => by
          have z := (List.mem_filter.mp z).1
          obtain ⟨j, hj⟩ := List.mem_iff_getElem?.mp z
          rw [List.getElem?_take] at hj
          split at hj
          · have := nd_ix nd2 hj hni
            omega
          · cases hj
        obtain ⟨kv, v1, v2, v3⟩ := PairsAt.snoc (g := fun n => (arrL S n, arrL S' n)) (d4.ext (ExtN.same s6)) hnew upd_same
        refine ⟨kv, Sum.inr q.name, rfl, v1, by rw [v2]; exact small1000 (Nat.le_trans (List.length_filter_le _ _) (by rw [List.length_take]; omega)), fun x o e n => ?_, ?_, ?_⟩
        · rw [upd_ne (fun z => ?_)]
          · exact s6 _ _ (k4 _ _ e n)
          · rw [z] at e
            have q := np _ _ e (fun y => nD (y ▸ rfl))
            rw [hD] at q
            cases q
        · rw [upd_ne nD]
          exact s6 _ _ z4
        · rw [en, if_pos g]
          exact v3
    · rintro H3 ⟨k3, z3, d3⟩
      rw [eln, show S'.2.length = (names S'.2).length by unfold names; rw [List.length_map], List.take_length] at d3
      refine ⟨z3, k _ D (fun x o e => ?_) ?_ ?_⟩
      · by_cases eb : x = c
        · rw [eb, hc] at e
          cases e
          rw [eb]
          exact upd_same
        · rw [upd_ne eb]
          exact k3 _ _ e eb
      · cases q : H D with
        | none => rfl
        | some o =>
          have := np _ _ q nD.symm
          rw [hD] at this
          cases this
      · obtain ⟨ts, p1, p2, p3⟩ := d3
        refine ⟨ts, by rw [upd_ne nD.symm]; exact p1, p2, fun i t m e1 e2 => ?_⟩
        have z := p3 i t m e1 e2
        rw [upd_ne (ne_of z z3 (by intro w; cases w))]
        exact z
end
end Sl

set_option Elab.async false
set_option linter.all false
set_option maxRecDepth 100000
set_option maxHeartbeats 4000000
namespace Sl
open PySem PySem.Spec L2 OwnR LamX
/-! ### one operation on what is there -/
def ErAt (CNm CMy CU : Addr) (H : Hp) (cls : Value) (d : Option Addr) : Er → Prop
  | .name => cls = .ref CNm ∧ d = none
  | .many => cls = .ref CMy ∧ d = none
  | .car n => cls = .ref CU ∧ ∃ b fs, d = some b ∧ H b = some (.xd fs) ∧ fs.lookup ("name" : Str) = some (.str n)
def RsAt (H : Hp) (v : V) : Rs → Prop
  | .tick i => v = .int i
  | .chg ns g => ∃ d, v = .ref d ∧ PairsAt H d ns g
theorem RsAt.ext {H H' : Hp} {v : V} {r : Rs} (h : RsAt H v r) (e : ExtN H H') : RsAt H' v r := by
  cases r with
  | tick i => exact h
  | chg ns g =>
    obtain ⟨d, h1, h2⟩ := h
    exact ⟨d, h1, h2.ext e⟩
def StepR (CR CNm CMy CU : Addr) (T : List (Addr × Str)) (H : Hp) (S : St2) (o : Op) (Q : VK) (E : XK) : Prop :=
  (∀ e, stepO S o = .inl e → ∀ H' cls d, ExtN H H' → Tabs T H' → ErAt CNm CMy CU H' cls d e → E cls d H') ∧
  (∀ S' r, stepO S o = .inr (S', r) → ∀ H' t p a v, ExtN H H' → Tabs T H' → H' t = some (.tup [.ref p, .ref a, v]) → RoadAt CR H' p S'.1 → CarsAt H' a S'.2 → RsAt H' v r → Q (.ref t) H')
structure AtS (CR : Addr) (T : List (Addr × Str)) (H : Hp) (p a : Addr) (S : St2) : Prop where
  rd : RoadAt CR H p S.1
  ct : CarsAt H a S.2
  ok : StOk S
  tb : Tabs T H
theorem AtS.same {CR : Addr} {T : List (Addr × Str)} {H H' : Hp} {p a : Addr} {S : St2} (h : AtS CR T H p a S) (s : Same H H') : AtS CR T H' p a S := ⟨h.rd.ext (ExtN.same s), h.ct.same s, h.ok, h.tb.ext s⟩
theorem AtS.ext {CR : Addr} {T : List (Addr × Str)} {H H' : Hp} {p a : Addr} {S : St2} (h : AtS CR T H p a S) (e : ExtN H H') (t : Tabs T H') : AtS CR T H' p a S := ⟨h.rd.ext e, h.ct.ext e, h.ok, t⟩
theorem snocC_at {H : Hp} {t q : Addr} {ts : List Addr} {cars : List Car} {c : Car} (h2 : ts.length = cars.length) (h3 : ∀ (i : Nat) (t : Addr) (c : Car), ts[i]? = some t → cars[i]? = some c → H t = some (.tup c.vs)) (ht : H t = some (.tup c.vs)) (hq : H q = some (.tup (ts.map V.ref ++ [.ref t]))) : CarsAt H q (cars ++ [c]) := by
  refine ⟨ts ++ [t], by rw [hq, List.map_append]; rfl, by rw [List.length_append, List.length_append, h2]; rfl, fun i b d e1 e2 => ?_⟩
  rcases Nat.lt_or_ge i cars.length with lt | ge
  · rw [List.getElem?_append_left (by omega)] at e1
    rw [List.getElem?_append_left lt] at e2
    exact h3 i b d e1 e2
  · rw [List.getElem?_append_right (by omega)] at e1
    rw [List.getElem?_append_right ge] at e2
    have : i - cars.length = 0 := by
      have := (List.getElem?_eq_some_iff.mp e2).1
      simp at this
      omega
    rw [h2, this] at e1
    rw [this] at e2
    cases e1
    cases e2
    exact ht
section
variable {P : Program} {w : World} {K : PySem.W.Frag} {mg : Str → Option Value} {base : Heap}
/-! ### _join -/
def spJoin (CR CNm CMy CU : Addr) (T : List (Addr × Str)) : Sp := fun vs H Q E => ∃ (p a : Addr) (S : St2) (n : Str) (st pc : Nat), vs = [.ref p, .ref a, .str n, .int ((st : Nat) : Int), .int ((pc : Nat) : Int)] ∧ AtS CR T H p a S ∧ OpOk S (.join n st pc) ∧ StepR CR CNm CMy CU T H S (.join n st pc) Q E
def nJoin : List Str := ["road", "cars", "name", "start", "pace", "earliest", "joined"]
theorem scJoin : FnScope nJoin ["road", "cars", "name", "start", "pace"] (defScope sJoin) := ⟨rfl, rfl, rfl, by decide +kernel, rfl, by decide +kernel, by decide +kernel⟩
theorem ok_join {f fN fB fA CR CNm CMy CU : Addr} {fd dN dB dA : FuncData} {T : List (Addr × Str)} (F : Fun K "_join" "_join" sJoin f fd) (M : Mg mg) (EM : ErrT K mg "TooManyCars" CMy)
    (BN : Fb K mg "check_new_name" sCheckNewName ["cars", "name"] fN dN) (GN : FnOk P w K mg base (L2.CX P w) 2 fN dN ["cars", "name"] (spNewNameX CNm))
    (BB : Fb K mg "is_number" sIsNumber ["value", "least", "most"] fB dB) (GB : FnOk P w K mg base CX0 1 fB dB ["value", "least", "most"] spIsNumber)
    (BA : Fb K mg "_arrivals" sArrivals ["road", "cars"] fA dA) (GA : FnOk P w K mg base CX0 7 fA dA ["road", "cars"] (spArrs CR T)) : FnOk P w K mg base (L2.CX P w) 8 f fd ["road", "cars", "name", "start", "pace"] (spJoin CR CNm CMy CU T) := by
  obtain ⟨tc, MC⟩ := M.mostCars
  obtain ⟨ts0, MS⟩ := M.latestStart
  obtain ⟨tp0, MP⟩ := M.slowestPace
  refine F.okX scJoin (fun vs H Q E h => ?_) (fun cdv A outer s H vs Q E hr h => ?_)
  · obtain ⟨p, a, S, n, st, pc, rfl, _⟩ := h
    rfl
  · obtain ⟨p, a, S, n, st, pc, rfl, A0, ⟨hn, hlast, hs, p1, p2⟩, kE, k⟩ := h
    have nd := scJoin.nd
    have hu := hu_of hr
    have hr1 : Room 1 (A.deeper (PyProof.Rows.envOfC "_join" (defScope sJoin) s.heap.objs.size f cdv)) := hr.mono (by decide)
    have hr2 : Room 2 (A.deeper (PyProof.Rows.envOfC "_join" (defScope sJoin) s.heap.objs.size f cdv)) := hr.mono (by decide)
    refine ⟨_, pss_cons (ps_expr (pe_call GN hr2 (by rfl) BN.at_ BN.fn.kp BN.bd .nil (passes_call (takes_of rfl rfl rfl rfl) fun _ _ _ _ h => h) (pa_cons (pv 1) (pa_cons (pv 2) pa_nil))))
      (pss_cons (ps_set (i := 5) nd rfl (.inl rfl) (pe_ifExp (pt_truth (pv 1) (fun _ => rfl)) (pe_ix (r := rIxT K) ix_tup (pe_ix (r := rIxT K) ix_tup (pv 1) (pe_un un_neg pe_int) (fun _ _ => rfl)) pe_int (fun _ _ => rfl)) pe_int))
      (pss_cons (ps_if (pt_not (pt_val (pe_call GB hr1 (by rfl) BB.at_ BB.fn.kp BB.bd .nil pass0 (pa_cons (pv 3) (pa_cons (pv 5) (pa_cons (pe_glob (v := .int 1000000) (by rfl) MS ⟨_, rfl⟩) pa_nil)))))) (pss_one ps_never) pss_nil)
      (pss_cons (ps_if (pt_not (pt_val (pe_call GB hr1 (by rfl) BB.at_ BB.fn.kp BB.bd .nil pass0 (pa_cons (pv 4) (pa_cons pe_int (pa_cons (pe_glob (v := .int 60) (by rfl) MP ⟨_, rfl⟩) pa_nil)))))) (pss_one ps_never) pss_nil)
      (pss_cons (ps_if (pt_cmpR op_eq (pe_callB call_len_seq (by rfl) M.len boot_len (pa_cons (pv 1) pa_nil)) (pe_glob (v := .int 10) (by rfl) MC ⟨_, rfl⟩) (nomark _)) (pss_one (ps_raise rfl (takes_of rfl rfl rfl rfl) (pmk_errT EM (by rfl)))) pss_nil)
      (pss_cons (ps_set (i := 6) nd rfl (.inl rfl) (pe_op op_catA (pv 1) (pe_tup (pa_cons (pe_tup (pa_cons (pv 2) (pa_cons (pv 3) (pa_cons (pv 4) pa_nil)))) pa_nil))))
      (pss_one (ps_ret (pe_tup (pa_cons (pv 0) (pa_cons (pv 6) (pa_cons (pe_dget hu (pe_call GA hr (by rfl) BA.at_ BA.fn.kp BA.bd .nil pass0 (pa_cons (pv 0) (pa_cons (pv 6) pa_nil))) (pv 2) (fun _ _ => rfl)) pa_nil))))))))))), ?_⟩
    refine ⟨_, rfl, _, rfl, a, S.2, n, rfl, A0.ct, A0.ok.co, hn, fun hni H1 s1 => ?_, fun hin H1 s1 => ?_⟩
    rotate_left
    · refine kE .name (by rw [step_join, if_pos hin]) H1 _ _ (ExtN.same s1) (A0.tb.ext s1) ⟨rfl, rfl⟩
    have A1 := A0.same s1
    obtain ⟨ts, t1, t2, t3⟩ := id A1.ct
    have hts : (ts.map V.ref).length = S.2.length := by rw [List.length_map, t2]
    have few := A0.ok.co.few
    -- the earliest start
    dsimp only
    refine seq_cut (fun σ' H' => ∃ ec : Int, ec ≤ ((st : Nat) : Int) ∧ σ' = [some (.ref p), some (.ref a), some (.str n), some (.int ((st : Nat) : Int)), some (.int ((pc : Nat) : Int)), some (.int ec), none] ∧ H' = H1) (fun nx done => ?_) ?_
    · refine ⟨_, rfl, _, .inr (.inl ⟨_, SqT.of t1, rfl⟩), ?_⟩
      cases hc : S.2.getLast? with
      | none =>
        have e0 : S.2 = [] := List.getLast?_eq_none_iff.mp hc
        have e1 : ts = [] := List.length_eq_zero_iff.mp (by rw [t2, e0]; rfl)
        rw [e1]
        exact iteF (done _ _ ⟨0, by omega, rfl, rfl⟩)
      | some c =>
        obtain ⟨l, hl⟩ := List.getLast?_eq_some_iff.mp hc
        have hlen : S.2.length = l.length + 1 := by rw [hl, List.length_append]; rfl
        have hci : S.2[l.length]? = some c := by rw [hl, List.getElem?_append_right (Nat.le_refl _), Nat.sub_self]; rfl
        obtain ⟨t, ht⟩ : ∃ t, ts[l.length]? = some t := ⟨_, List.getElem?_eq_getElem (by omega)⟩
        rw [show (!(ts.map V.ref).isEmpty) = true by cases ts with | nil => cases ht | cons _ _ => rfl]
        refine iteT ⟨_, rfl, _, rfl, a, _, _, .ref t, rfl, rfl, SqT.of t1, atI_lst (by rw [hts, hlen]) (map_atZ V.ref ht), t, _, ((1 : Nat) : Int), .int c.start, rfl, rfl, SqT.of (t3 _ t c ht hci), atI_nat rfl, ?_⟩
        exact done _ _ ⟨c.start, hlast c hc, rfl, rfl⟩
    rintro σ2 H2 ⟨ec, hec, rfl, rfl⟩
    refine ⟨_, rfl, _, rfl, _, ec, 1000000, rfl, ?_⟩
    rw [show (decide (ec ≤ ((st : Nat) : Int)) && decide (((st : Nat) : Int) ≤ 1000000)) = true by rw [decide_eq_true hec, decide_eq_true (by omega)]; rfl]
    refine ⟨_, rfl, iteF ?_⟩
    refine ⟨_, rfl, _, 1, 60, rfl, ?_⟩
    rw [show (decide ((1 : Int) ≤ ((pc : Nat) : Int)) && decide (((pc : Nat) : Int) ≤ 60)) = true by rw [decide_eq_true (by omega), decide_eq_true (by omega)]; rfl]
    refine ⟨_, rfl, iteF ?_⟩
    refine ⟨_, rfl, a, _, rfl, .inr (SqT.of t1), rfl, _, rfl, ?_⟩
    rw [hts]
    by_cases h10 : S.2.length = 10
    · rw [h10]
      refine iteT ?_
      exact kE .many (by rw [step_join, if_neg hni, if_pos h10]) H2 _ _ (ExtN.same s1) A1.tb ⟨rfl, rfl⟩
    rw [decide_eq_false (by intro z; have := V.int.inj z; exact h10 (by omega))]
    refine iteF ?_
    -- the cars, and this one
    refine ⟨_, rfl, _, rfl, _, rfl, _, rfl, by show 3 ≤ sizeLine; decide, fun t ht => ⟨by show 1 ≤ sizeLine; decide, fun u hu2 => ?_⟩⟩
    have a1 := sameNew ht (.tup [V.str n, V.int ((st : Nat) : Int), V.int ((pc : Nat) : Int)])
    have a2 := sameNew hu2 (.tup [V.ref t])
    have a12 := a1.trans a2
    have sok : StOk (S.1, S.2 ++ [newC n st pc]) := ⟨A0.ok.so, join_ok A0.ok.co (newC_ok hn hs p1 p2) hni h10⟩
    have er : stepO S (.join n st pc) = .inr ((S.1, S.2 ++ [newC n st pc]), .tick (arrL (S.1, S.2 ++ [newC n st pc]) n)) := by rw [step_join, if_neg hni, if_neg h10]
    have hmem : n ∈ names (S.2 ++ [newC n st pc]) := by rw [names_app]; exact List.mem_append_right _ List.mem_cons_self
    have fin : ∀ (q : Addr) (H7 : Hp), Same H2 H7 → CarsAt H7 q (S.2 ++ [newC n st pc]) → tTup (tCons (tVar 0) (tCons (tVar 6) (tCons (tDGet (tCall (spArrs CR T) [] L2.E0 (tCons (tVar 0) (tCons (tVar 6) tNil))) (tVar 2)) tNil))) [some (.ref p), some (.ref a), some (.str n), some (.int ((st : Nat) : Int)), some (.int ((pc : Nat) : Int)), some (.int ec), some (.ref q)] H7 Q := by
      intro q H7 s7 ct
      have A7 := A1.same s7
      refine ⟨_, rfl, _, rfl, _, rfl, _, rfl, p, q, (S.1, S.2 ++ [newC n st pc]), rfl, A7.rd, ct, sok, A7.tb, fun H8 d e8 T8 n8 hd => ⟨_, rfl, d, _, rfl, gS hd (arrK_get sok.co.nd hmem), by show 3 ≤ sizeLine; decide, fun t8 ht8 => ?_⟩⟩
      have s9 := sameNew ht8 (.tup [V.ref p, V.ref q, V.int (arrL (S.1, S.2 ++ [newC n st pc]) n)])
      have e9 := e8.trans (ExtN.same s9)
      exact k _ _ er _ t8 p q _ ((ExtN.same (s1.trans s7)).trans e9) (T8.ext s9) upd_same (A7.rd.ext e9) (ct.ext e9) rfl
    refine ⟨a, u, _, _, rfl, rfl, SqT.of (a12 _ _ t1), SqT.of upd_same, Nat.le_trans (m := 1000) (by rw [hts]; show S.2.length + 1 ≤ 1000; omega) (by decide), fun nil => ?_, fun _ z => (nomatch z), fun ne _ q hq => ?_⟩
    · have ts0 : ts = [] := by cases ts with | nil => rfl | cons _ _ => cases nil
      refine fin u _ a12 (snocC_at (c := newC n st pc) t2 (fun i t c e1 e2 => a12 _ _ (t3 i t c e1 e2)) (a2 _ _ upd_same) ?_)
      rw [upd_same, ts0]
      rfl
    · have a3 := sameNew hq (.tup (ts.map V.ref ++ [V.ref t]))
      have a13 := a12.trans a3
      exact fin q _ a13 (snocC_at (c := newC n st pc) t2 (fun i t c e1 e2 => a13 _ _ (t3 i t c e1 e2)) (a3 _ _ (a2 _ _ upd_same)) upd_same)
/-! ### _remove -/
def spRemove (CR CNm CMy CU : Addr) (T : List (Addr × Str)) : Sp := fun vs H Q E => ∃ (p a : Addr) (S : St2) (n : Str), vs = [.ref p, .ref a, .str n] ∧ AtS CR T H p a S ∧ StepR CR CNm CMy CU T H S (.rem n) Q E
def nRemove : List Str := ["road", "cars", "name", "left", "car"]
theorem scRemove : FnScope nRemove ["road", "cars", "name"] (defScope sRemove) := ⟨rfl, rfl, rfl, by decide +kernel, rfl, by decide +kernel, by decide +kernel⟩
theorem less_sub {cars : List Car} {n m : Str} (h : m ∈ names (lessC cars n)) : m ∈ names cars := by
  obtain ⟨c, hc, rfl⟩ := List.mem_map.mp h
  exact List.mem_map_of_mem (List.mem_filter.mp hc).1
theorem ok_remove {f fK fA fC CR CNm CMy CU : Addr} {fd dK dA dC : FuncData} {T : List (Addr × Str)} (F : Fun K "_remove" "_remove" sRemove f fd) (M : Mg mg)
    (BK : Fb K mg "check_known" sCheckKnown ["cars", "name"] fK dK) (GK : FnOk P w K mg base (L2.CX P w) 3 fK dK ["cars", "name"] (spKnownX CU))
    (BA : Fb K mg "_arrivals" sArrivals ["road", "cars"] fA dA) (GA : FnOk P w K mg base CX0 7 fA dA ["road", "cars"] (spArrs CR T))
    (BC : Fb K mg "_changes" sChanges ["before", "after"] fC dC) (GC : FnOk P w K mg base CX0 1 fC dC ["before", "after"] spChanges) : FnOk P w K mg base (L2.CX P w) 8 f fd ["road", "cars", "name"] (spRemove CR CNm CMy CU T) := by
  refine F.okX scRemove (fun vs H Q E h => ?_) (fun cdv A outer s H vs Q E hr h => ?_)
  · obtain ⟨p, a, S, n, rfl, _⟩ := h
    rfl
  · obtain ⟨p, a, S, n, rfl, A0, kE, k⟩ := h
    have nd := scRemove.nd
    have hr1 : Room 1 (A.deeper (PyProof.Rows.envOfC "_remove" (defScope sRemove) s.heap.objs.size f cdv)) := hr.mono (by decide)
    have hr3 : Room 3 (A.deeper (PyProof.Rows.envOfC "_remove" (defScope sRemove) s.heap.objs.size f cdv)) := hr.mono (by decide)
    refine ⟨_, pss_cons (ps_expr (pe_call GK hr3 (by rfl) BK.at_ BK.fn.kp BK.bd .nil (passes_call (takes_of rfl rfl rfl rfl) fun _ _ _ _ h => h) (pa_cons (pv 1) (pa_cons (pv 2) pa_nil))))
      (pss_cons (ps_set (i := 3) nd rfl (.inl rfl) (pe_callTy call_tuple_of (by rfl) M.tuple boot_tTuple (pa_cons (pe_lc (own := [("car", 4)]) (g := gName 4) (tt := tTest (tOp rNe (tOp (rIxT K) (tVar 4) (tC (.int 0))) (tVar 2))) (te := tVar 4) (by rfl) nd (pi_tup (pv 1)) (blkOk_by (N := nRemove) (sc := defScope sRemove) (by decide +kernel))
          (fun _ _ _ _ _ => pg_name (i := 4) nd rfl (Or.inl rfl)) (fun _ _ _ _ _ => pts_one (pt_cmpR op_ne (pe_ix (r := rIxT K) ix_tup (pv 4) pe_int (fun _ _ => rfl)) (pv 2) (nomark _))) (fun _ _ _ _ _ => pv 4)) pa_nil)))
      (pss_one (ps_ret (pe_tup (pa_cons (pv 0) (pa_cons (pv 3) (pa_cons (pe_call GC hr1 (by rfl) BC.at_ BC.fn.kp BC.bd .nil pass0 (pa_cons (pe_call GA hr (by rfl) BA.at_ BA.fn.kp BA.bd .nil pass0 (pa_cons (pv 0) (pa_cons (pv 1) pa_nil))) (pa_cons (pe_call GA hr (by rfl) BA.at_ BA.fn.kp BA.bd .nil pass0 (pa_cons (pv 0) (pa_cons (pv 3) pa_nil))) pa_nil))) pa_nil))))))), ?_⟩
    refine ⟨_, rfl, _, rfl, a, S.2, n, rfl, A0.ct, A0.ok.co, fun hin H1 s1 => ?_, fun hni H' d fs s' hd hf => ?_⟩
    rotate_left
    · exact kE (.car n) (by rw [step_rem, if_neg hni]) H' _ _ (ExtN.same s') (A0.tb.ext s') ⟨rfl, d, fs, rfl, hd, hf⟩
    have A1 := A0.same s1
    have er : stepO S (.rem n) = .inr ((S.1, lessC S.2 n), chgX S (S.1, lessC S.2 n)) := by rw [step_rem, if_pos hin]
    have sok : StOk (S.1, lessC S.2 n) := ⟨A0.ok.so, less_ok A0.ok.co n⟩
    have few := A0.ok.co.few
    obtain ⟨ts, h1, h2, h3⟩ := id A1.ct
    have hl : (ts.map V.ref).length = S.2.length := by rw [List.length_map, h2]
    refine ⟨_, rfl, a, rfl, ⟨_, SqT.of h1⟩, fun D hD => ?_⟩
    refine lc_it walk_tup (fun i H2 => Same H1 H2 ∧ ∃ us : List Addr, H2 D = some (.lst (us.map V.ref)) ∧ us.length = (lessC (S.2.take i) n).length ∧ ∀ (q : Nat) (t : Addr) (c : Car), us[q]? = some t → (lessC (S.2.take i) n)[q]? = some c → H1 t = some (.tup c.vs))
      ⟨sameNew hD _, [], upd_same, rfl, fun q t c e => by simp at e⟩ (fun i H2 _ ⟨k1, _⟩ => SqT.of (k1 _ _ h1)) ?_ ?_
    · rintro i y Hz H2 hi ⟨k1, us, u1, u2, u3⟩ ⟨e, hy⟩
      subst e
      obtain ⟨t, ht, rfl⟩ : ∃ t, ts[i]? = some t ∧ y = V.ref t := by
        rw [List.getElem?_map] at hy
        obtain ⟨t, z1, z2⟩ := Option.map_eq_some_iff.mp hy
        exact ⟨t, z1, z2.symm⟩
      rw [hl] at hi
      obtain ⟨c, hc⟩ : ∃ c, S.2[i]? = some c := ⟨_, List.getElem?_eq_getElem hi⟩
      have htv := h3 i t c ht hc
      refine ⟨rfl, ?_⟩
      refine ⟨_, rfl, t, _, ((0 : Nat) : Int), .str c.name, rfl, rfl, SqT.of (k1 _ _ htv), atI_nat rfl, _, rfl, rfl, _, rfl, ?_⟩
      have e1 : lessC (S.2.take (i + 1)) n = lessC (S.2.take i) n ++ (if c.name = n then [] else [c]) := by
        unfold lessC
        rw [tk1 hc, List.filter_append]
        by_cases h : c.name = n <;> simp [h]
      have hul : (lessC (S.2.take i) n).length ≤ 10 := by
        have := List.length_filter_le (fun c : Car => decide (c.name ≠ n)) (S.2.take i)
        rw [List.length_take] at this
        unfold lessC
        omega
      rw [e1]
      by_cases h : c.name = n
      · rw [show (!decide (V.str c.name = V.str n)) = false by simp [h], if_pos h, List.append_nil]
        exact iteF ⟨k1, us, u1, u2, u3⟩
      · rw [show (!decide (V.str c.name = V.str n)) = true by simp [h], if_neg h]
        refine iteT ⟨_, rfl, _, u1, by rw [List.length_map, u2]; exact small1000 (by omega), fun b o e => by rw [upd_ne (ne_of_none e hD)]; exact k1 _ _ e, us ++ [t], by rw [upd_same, List.map_append]; rfl, by rw [List.length_append, List.length_append, u2]; rfl, fun q t' c' e1 e2 => ?_⟩
        rcases snoc_get e1 with e1 | ⟨hq, rfl⟩
        · have hql := (List.getElem?_eq_some_iff.mp e1).1
          rw [List.getElem?_append_left (by omega)] at e2
          exact u3 q t' c' e1 e2
        · rw [List.getElem?_append_right (by omega), hq, u2, Nat.sub_self] at e2
          have : c = c' := by simpa using e2
          rw [← this]
          exact htv
    rintro H2 ⟨k1, us, u1, u2, u3⟩
    rw [hl, List.take_length] at u2 u3
    refine ⟨D, _, rfl, .inl ⟨SqL.of u1, fun b hb => ?_⟩⟩
    have s3 := sameNew hb (.tup (us.map V.ref))
    have s13 := k1.trans s3
    have ctb : CarsAt (upd H2 b (.tup (us.map V.ref))) b (lessC S.2 n) := ⟨us, upd_same, u2, fun q t c e1 e2 => s13 _ _ (u3 q t c e1 e2)⟩
    have A3 := A1.same s13
    generalize upd H2 b (.tup (us.map V.ref)) = H3 at s3 s13 ctb A3
    refine ⟨_, rfl, _, rfl, _, rfl, _, rfl, p, a, S, rfl, A3.rd, A3.ct, A3.ok, A3.tb, fun H4 d4 e4 T4 n4 hd4 => ?_⟩
    refine ⟨_, rfl, _, rfl, p, b, (S.1, lessC S.2 n), rfl, A3.rd.ext e4, ctb.ext e4, sok, T4, fun H5 d5 e5 T5 n5 hd5 => ?_⟩
    have hd45 := e5 _ _ hd4 (fun _ z => nomatch z)
    refine ⟨d4, d5, S, (S.1, lessC S.2 n), rfl, hd45, hd5, n5.ne hd4 (fun _ z => nomatch z), fun m hm => less_sub hm, A0.ok.co.nd, sok.co.nd, sok.co.few, fun H6 d6 s6 nd6 hp6 => ⟨by show 3 ≤ sizeLine; decide, fun t8 ht8 => ?_⟩⟩
    have s9 := sameNew ht8 (.tup [V.ref p, V.ref b, V.ref d6])
    have e39 := e4.trans (e5.trans (ExtN.same (s6.trans s9)))
    exact k _ _ er _ t8 p b _ ((ExtN.same (s1.trans s13)).trans e39) (T5.ext (s6.trans s9)) upd_same (A3.rd.ext e39) (ctb.ext e39) ⟨d6, rfl, hp6.ext (ExtN.same s9)⟩
end
end Sl

set_option Elab.async false
set_option linter.all false
set_option maxRecDepth 100000
set_option maxHeartbeats 4000000
namespace Sl
open PySem PySem.Spec L2 OwnR LamX
theorem secs_set {H : Hp} {ts : List Addr} {secs : List Sec} {i : Nat} {b : Bool} {v : Addr} (t2 : ts.length = secs.length) (t3 : ∀ (i : Nat) (t : Addr) (s : Sec), ts[i]? = some t → secs[i]? = some s → H t = some (.tup (secV s))) (hv : H v = some (.tup (secV (b, (secs.getD i (b, 1)).2)))) :
    ∀ (j : Nat) (a : Addr) (s : Sec), (ts.set i v)[j]? = some a → (setK secs i b)[j]? = some s → H a = some (.tup (secV s)) := by
  intro j a s e1 e2
  unfold setK at e2
  by_cases e : i = j
  · subst e
    have h1 := (List.getElem?_eq_some_iff.mp e1).1
    have h2 := (List.getElem?_eq_some_iff.mp e2).1
    rw [List.length_set] at h1 h2
    rw [List.getElem?_set_self h1] at e1
    rw [List.getElem?_set_self h2] at e2
    rw [← Option.some.inj e1, ← Option.some.inj e2]
    exact hv
  · rw [List.getElem?_set_ne e] at e1 e2
    exact t3 j a s e1 e2
theorem ixN_nat {n i : Nat} (h : i < n) : ixN n ((i : Nat) : Int) = some i := by
  unfold ixN
  rw [if_pos (by omega)]
  simp [h]
section
variable {P : Program} {w : World} {K : PySem.W.Frag} {mg : Str → Option Value} {base : Heap}
/-! ### _set_kind -/
def spSetK (CR CNm CMy CU : Addr) (T : List (Addr × Str)) : Sp := fun vs H Q E => ∃ (p a : Addr) (S : St2) (i : Nat) (b : Bool), vs = [.ref p, .ref a, .int ((i : Nat) : Int), .str (kindS b)] ∧ AtS CR T H p a S ∧ i < S.1.length ∧ StepR CR CNm CMy CU T H S (.kind i b) Q E
def nSetK : List Str := ["road", "cars", "section", "kind", "sections", "changed"]
theorem scSetK : FnScope nSetK ["road", "cars", "section", "kind"] (defScope sSetKind) := ⟨rfl, rfl, rfl, by decide +kernel, rfl, by decide +kernel, by decide +kernel⟩
theorem ok_setK {f fB fI fP fA fC CR CNm CMy CU pp lp kp : Addr} {fd dB dP dA dC : FuncData} {T : List (Addr × Str)} (F : Fun K "_set_kind" "_set_kind" sSetKind f fd) (M : Mg mg) (RR : RoadT K w mg CR lp kp)
    (BB : Fb K mg "is_number" sIsNumber ["value", "least", "most"] fB dB) (GB : FnOk P w K mg base CX0 1 fB dB ["value", "least", "most"] spIsNumber)
    (MR : Mk K CR fI) (GI : FnR P w K mg base CX0 3 fI (spRInit CR)) (PO : PropOf K CR "sections" pp fP) (bP : Binds K dP ["self"] []) (GP : FnOk P w K mg base CX0 1 fP dP ["self"] (getSp CR "_sections"))
    (BA : Fb K mg "_arrivals" sArrivals ["road", "cars"] fA dA) (GA : FnOk P w K mg base CX0 7 fA dA ["road", "cars"] (spArrs CR T))
    (BC : Fb K mg "_changes" sChanges ["before", "after"] fC dC) (GC : FnOk P w K mg base CX0 1 fC dC ["before", "after"] spChanges) : FnOk P w K mg base (L2.CX P w) 8 f fd ["road", "cars", "section", "kind"] (spSetK CR CNm CMy CU T) := by
  refine F.okX scSetK (fun vs H Q E h => ?_) (fun cdv A outer s H vs Q E hr h => ?_)
  · obtain ⟨p, a, S, i, b, rfl, _⟩ := h
    rfl
  · obtain ⟨p, a, S, i, b, rfl, A0, hi, kE, k⟩ := h
    have nd := scSetK.nd
    have hr1 : Room 1 (A.deeper (PyProof.Rows.envOfC "_set_kind" (defScope sSetKind) s.heap.objs.size f cdv)) := hr.mono (by decide)
    have hr2 : Room 2 (A.deeper (PyProof.Rows.envOfC "_set_kind" (defScope sSetKind) s.heap.objs.size f cdv)) := hr.mono (by decide)
    have hr4 : Room (3 + 1) (A.deeper (PyProof.Rows.envOfC "_set_kind" (defScope sSetKind) s.heap.objs.size f cdv)) := hr.mono (by decide)
    refine ⟨_, pss_cons (ps_if (pt_not (pt_val (pe_call GB hr1 (by rfl) BB.at_ BB.fn.kp BB.bd .nil pass0 (pa_cons (pv 2) (pa_cons pe_int (pa_cons (pe_op op_sub (pe_callB call_len_seq (by rfl) M.len boot_len (pa_cons (pe_prop (pv 0) RR.cl PO GP hr2 bP .nil pass0 rfl) pa_nil)) pe_int) pa_nil)))))) (pss_one ps_never) pss_nil)
      (pss_cons (ps_if (pt_cmpR op_notIn_seq (pv 3) (pe_tup (pa_cons pe_str (pa_cons pe_str pa_nil))) (by rfl)) (pss_one ps_never) pss_nil)
      (pss_cons (ps_set (i := 4) nd rfl (.inl rfl) (pe_callTy call_list_of (by rfl) M.list (by decide +kernel) (pa_cons (pe_prop (pv 0) RR.cl PO GP hr2 bP .nil pass0 rfl) pa_nil)))
      (pss_cons (ps_asg (pe_tup (pa_cons (pv 3) (pa_cons (pe_ix (r := rIxT K) ix_tup (pe_ix (r := rIxL K) ix_list (pv 4) (pv 2) (fun _ _ => rfl)) pe_int (fun _ _ => rfl)) pa_nil))) (pg_sub (pv 4) (pv 2) set_list))
      (pss_cons (ps_set (i := 5) nd rfl (.inl rfl) (pe_makeLS MR GI hr4 pass0 (pe_glob (v := .ref CR) (by rfl) RR.mgC rfl) (pv 4)))
      (pss_one (ps_ret (pe_tup (pa_cons (pv 5) (pa_cons (pv 1) (pa_cons (pe_call GC hr1 (by rfl) BC.at_ BC.fn.kp BC.bd .nil pass0 (pa_cons (pe_call GA hr (by rfl) BA.at_ BA.fn.kp BA.bd .nil pass0 (pa_cons (pv 0) (pa_cons (pv 1) pa_nil))) (pa_cons (pe_call GA hr (by rfl) BA.at_ BA.fn.kp BA.bd .nil pass0 (pa_cons (pv 5) (pa_cons (pv 1) pa_nil))) pa_nil))) pa_nil)))))))))), ?_⟩
    obtain ⟨dx, t, u, hp, ⟨ts, t1, t2, t3⟩, hu⟩ := id A0.rd
    have hts : (ts.map V.ref).length = S.1.length := by rw [List.length_map, t2]
    have few := A0.ok.so.few
    have sok : StOk (setK S.1 i b, S.2) := ⟨setK_ok A0.ok.so hi b, A0.ok.co⟩
    -- the section is one, the kind is one
    refine ⟨_, rfl, _, rfl, p, dx, _, rfl, hp, p, dx, _, _, rfl, hp, rf_sections _ _, t, _, rfl, .inr (SqT.of t1), _, _, rfl, rfl, ((i : Nat) : Int), 0, _, rfl, ?_⟩
    rw [hts, show (decide ((0 : Int) ≤ ((i : Nat) : Int)) && decide (((i : Nat) : Int) ≤ ((S.1.length : Nat) : Int) - 1)) = true by rw [decide_eq_true (by omega), decide_eq_true (by omega)]; rfl]
    refine ⟨_, rfl, iteF ?_⟩
    refine ⟨_, rfl, by show 2 ≤ sizeLine; decide, fun q hq => ⟨q, _, rfl, .inr (SqT.of upd_same), rfl, rfl, false, ?_, iteF ?_⟩⟩
    · show V.bl (!inV (.str (kindS b)) _) = V.bl false
      cases b <;> rfl
    have s1 := sameNew hq (.tup [V.str "narrow", V.str "wide"])
    have hp1 := s1 _ _ hp
    have t1' := s1 _ _ t1
    generalize upd H q (.tup [V.str "narrow", V.str "wide"]) = H1 at s1 hp1 t1' ⊢
    -- the sections as a list, one of them changed
    refine ⟨_, rfl, p, dx, _, rfl, hp1, p, dx, _, _, rfl, hp1, rf_sections _ _, t, _, rfl, .inr (SqT.of t1'), fun l hl => ?_⟩
    have s2 := sameNew hl (.lst (ts.map V.ref))
    have s12 := s1.trans s2
    have hl2 : upd H1 l (.lst (ts.map V.ref)) l = some (.lst (ts.map V.ref)) := upd_same
    generalize upd H1 l (.lst (ts.map V.ref)) = H2 at s2 s12 hl2 ⊢
    obtain ⟨tc, htc⟩ : ∃ tc, ts[i]? = some tc := ⟨_, List.getElem?_eq_getElem (by omega)⟩
    obtain ⟨sc, hsc⟩ : ∃ sc, S.1[i]? = some sc := ⟨_, List.getElem?_eq_getElem hi⟩
    have hD : S.1.getD i (b, 1) = sc := by rw [List.getD_eq_getElem?_getD, hsc]; rfl
    refine ⟨_, rfl, _, rfl, _, rfl, l, _, _, .ref tc, rfl, rfl, SqL.of hl2, atI_nat (map_atZ V.ref htc), tc, _, ((1 : Nat) : Int), .int ((sc.2 : Nat) : Int), rfl, rfl, SqT.of (s12 _ _ (t3 i tc sc htc hsc)), atI_nat rfl, by show 2 ≤ sizeLine; decide, fun v hv => ?_⟩
    have s3 := sameNew hv (.tup [V.str (kindS b), V.int ((sc.2 : Nat) : Int)])
    have hl3 := s3 _ _ hl2
    have hv3 : upd H2 v (.tup [V.str (kindS b), V.int ((sc.2 : Nat) : Int)]) v = some (.tup (secV (b, (S.1.getD i (b, 1)).2))) := by rw [hD]; exact upd_same
    have s03 : ∀ x o, H x = some o → upd H2 v (.tup [V.str (kindS b), V.int ((sc.2 : Nat) : Int)]) x = some o := fun x o e => s3 _ _ (s12 _ _ e)
    have nl : ∀ x o, H x = some o → x ≠ l := fun x o e => ne_of_none (s1 _ _ e) hl
    generalize upd H2 v (.tup [V.str (kindS b), V.int ((sc.2 : Nat) : Int)]) = H3 at s3 hl3 hv3 s03 ⊢
    refine ⟨_, rfl, _, rfl, l, _, _, i, rfl, rfl, hl3, ixN_nat (by rw [hts]; exact hi), ?_⟩
    have nvl : v ≠ l := ne_of hv3 hl3 (by intro z; cases z)
    have s04 : Same H (upd H3 l (.lst ((ts.map V.ref).set i (.ref v)))) := fun x o e => by rw [upd_ne (nl _ _ e)]; exact s03 _ _ e
    have hv4 : upd H3 l (.lst ((ts.map V.ref).set i (.ref v))) v = some (.tup (secV (b, (S.1.getD i (b, 1)).2))) := by rw [upd_ne nvl]; exact hv3
    have hl4 : upd H3 l (.lst ((ts.map V.ref).set i (.ref v))) l = some (.lst ((ts.set i v).map V.ref)) := by rw [upd_same, List.map_set]
    generalize upd H3 l (.lst ((ts.map V.ref).set i (.ref v))) = H4 at s04 hv4 hl4 ⊢
    have A4 := A0.same s04
    have g4 := secs_set (i := i) (b := b) t2 (fun j tj sj e1 e2 => s04 _ _ (t3 j tj sj e1 e2)) hv4
    have l4 : (ts.set i v).length = (setK S.1 i b).length := by rw [setK_len, List.length_set, t2]
    -- the new road
    refine ⟨rfl, _, rfl, l, _, rfl, .inr (SqL.of hl4), fun x dx2 hx hdx ne => ?_⟩
    refine ⟨[.ref x], (ts.set i v).map V.ref, rfl, rfl, by rw [List.length_map, List.length_set, t2]; exact Nat.le_of_lt (small1000 (by omega)), fun t7 ht7 => ?_⟩
    have hxt : x ≠ t7 := fun z => by
      rw [← z, upd_same] at ht7
      cases ht7
    have old : ∀ b o, H4 b = some o → (upd (upd (upd H4 dx2 (.own x)) x (.ins CR dx2 [])) t7 (.tup ((ts.set i v).map V.ref))) b = some o := fun b o e => by
      have e2 : (upd (upd H4 dx2 (.own x)) x (.ins CR dx2 [])) b = some o := by
        rw [upd_ne (ne_of_none e hx), upd_ne (ne_of_none e hdx)]
        exact e
      rw [upd_ne (ne_of_none e2 ht7)]
      exact e2
    refine ⟨x, dx2, t7, setK S.1 i b, rfl, by rw [upd_ne hxt, upd_same], ⟨ts.set i v, upd_same, l4, fun j a s e1 e2 => old _ _ (g4 j a s e1 e2)⟩, sok.so, fun H5 us kp hX hus => ⟨rfl, ?_⟩⟩
    have s45 : Same H4 H5 := fun b o e => kp b o (old _ _ e) (ne_of_none e hx)
    have rd5 : RoadAt CR H5 x (setK S.1 i b) := ⟨dx2, t7, us, hX, ⟨ts.set i v, kp _ _ upd_same hxt.symm, l4, fun j a s e1 e2 => s45 _ _ (g4 j a s e1 e2)⟩, hus⟩
    have A5 := A4.same s45
    refine ⟨_, rfl, _, rfl, _, rfl, _, rfl, p, a, S, rfl, A5.rd, A5.ct, A5.ok, A5.tb, fun H6 d6 e6 T6 n6 hd6 => ?_⟩
    refine ⟨_, rfl, _, rfl, x, a, (setK S.1 i b, S.2), rfl, rd5.ext e6, A5.ct.ext e6, sok, T6, fun H7 d7 e7 T7 n7 hd7 => ?_⟩
    have hd67 := e7 _ _ hd6 (fun _ z => nomatch z)
    refine ⟨d6, d7, S, (setK S.1 i b, S.2), rfl, hd67, hd7, n7.ne hd6 (fun _ z => nomatch z), fun m hm => hm, A0.ok.co.nd, sok.co.nd, sok.co.few, fun H8 d8 s8 nd8 hp8 => ⟨by show 3 ≤ sizeLine; decide, fun t8 ht8 => ?_⟩⟩
    have s9 := sameNew ht8 (.tup [V.ref x, V.ref a, V.ref d8])
    have e59 := e6.trans (e7.trans (ExtN.same (s8.trans s9)))
    exact k _ _ rfl _ t8 x a _ ((ExtN.same (s04.trans s45)).trans e59) (T7.ext (s8.trans s9)) upd_same (rd5.ext e59) (A5.ct.ext e59) ⟨d8, rfl, hp8.ext (ExtN.same s9)⟩
end
end Sl

set_option Elab.async false
set_option linter.all false
set_option maxRecDepth 100000
set_option maxHeartbeats 2000000
/-! A local name that holds one of several defs, called with a starred argument; .get on a dict of the module. -/
namespace OwnR
open PySem PySem.Spec PyProof.Rows L2
/-- the defs that a name may hold, each with what it is asked -/
def tCallVs (i : Nat) (fs : List (Addr × Sp)) (E : XK) (t : TA) : TE := fun σ H Q => ∃ q ∈ fs, σ[i]? = some (some (.ref q.1)) ∧ t σ H fun vs H1 => q.2 vs H1 Q E
section
variable {X : Cx} {CX : CXT} {k i : Nat} {E : XK} {x : Str} {e o : Expr} {es : List Expr} {t : TA} {p pos apos : Pos} {td ty : TE}
theorem pe_callVs {fs : List (Addr × Sp)} (F : ∀ q ∈ fs, FnR X.prog X.w X.K X.mg X.base CX k q.1 q.2 ∧ PySem.W.keepIn X.K (.ref q.1) = true) (hr : Room k X.A) (hx : Passes CX X E) (hN : X.N[i]? = some x) (hv : Vis X.env.scope x) (ha : PA X (e :: es) t)
    (hd : (x == ("__debug__" : Str)) = false := by decide) (hcd : (x == ("__classdict__" : Str)) = false := by decide)
    (he : starEach (e :: es) X.env = (false, eval e X.env) :: starEach es X.env := by rfl) (hst : (backTo pos (starEach es X.env)).any (·.1) = true := by rfl) : PE X (.Call (.Name x p) (e :: es) [] pos) (tCallVs i fs E t) := by
  refine ⟨fun pins s σ H Q I ⟨q, hq, hs, h⟩ => ?_⟩
  obtain ⟨Fq, hk⟩ := F q hq
  refine wpAny_Call_Name_kw (thn ((pe_var (pos := p) (i := i) hN hv hd hcd).run pins s σ H (fun v H1 => v = .ref q.1 ∧ H1 = H) I ⟨.ref q.1, hs, rfl, rfl⟩) fun u s1 ⟨v, H1, I1, r1, ev, eH⟩ => ?_)
  subst ev
  rw [eH] at I1
  cases r1
  refine PySem.W.callWith_S2 (h₀ := X.base) I.ok.mod.kin hk (thn (ha.run pos pins s1 σ H _ I1 h) fun us s2 ⟨vs, H2, I2, r, q2⟩ => ⟨I2.kIn, ?_⟩) he hst
  exact wpAny_call (run_fnR Fq hr hx I2 r q2)
/-- d.get(k), d a dict of the module -/
def tKGet (K : PySem.W.Frag) (w : World) (td ty : TE) : TE := fun σ H Q => td σ H fun x H1 => ∃ a, x = .ref a ∧ (a == sysModules) = false ∧ (∃ z v, KDct K w a z v) ∧ ty σ H1 fun y H2 => ∃ z v, y = .str z ∧ KDct K w a z v ∧ Q v H2
theorem pe_kget {cpos : Pos} (ho : PE X o td) (he : PE X e ty) (m : M1 X o "get" apos e cpos) : PE X (.Call (.Attribute o "get" apos) [e] [] cpos) (tKGet X.K X.w td ty) := by
  refine ⟨fun pins s σ H Q I hh => ?_⟩
  refine wpAny_Call_method m.base m.few m.line PySem.F.plainAttrs_dict PySem.F.slot_dict_get PySem.F.type_dict_get (thn (ho.run pins s σ H _ I hh) fun u s1 ⟨x, H1, I1, rx, a, ex, hp, ⟨z0, v0, es, n, u0, hl, hk, _, _⟩, q1⟩ => ?_)
  subst ex
  obtain rfl : u = Value.ref a := rx
  have hm := PySem.W.mapOf_K (prog := X.prog) (w := X.w) I1.kIn hl hk
  refine ⟨hm.typeIs, fun b eb => ?_, ?_⟩
  · cases eb
    exact ⟨_, I1.kIn _ _ hl, rfl⟩
  rw [m.trees]
  refine Calls.callWith_builtin rfl (Calls.evalArgs_plain (Calls.spliced_cons (thn (he.run pins s1 σ H1 _ I1 q1) fun iv s2 ⟨y, H2, I2, ry, z, v, ey, ⟨es2, n2, u2, hl2, hk2, e2, r2⟩, q2⟩ => Calls.spliced_nil ?_)))
  subst ey
  obtain ⟨t, rfl⟩ := ry
  have hm2 := PySem.W.mapOf_K (prog := X.prog) (w := X.w) I2.kIn hl2 hk2
  refine call_meetsIn PySem.F.slot_dict_get hm2.typeIs PySem.F.entry_dict_get (PySem.F.args_dict_get_2 _ _) (meets_dict_get (PySem.strKind X.prog X.w) a (strKind_is X.prog X.w z t) hp) ⟨_, hm2, ?_⟩
  rw [PySem.W.find_K hl2 e2]
  exact ⟨v, H2, I2.tok _, r2, q2⟩
end
end OwnR

set_option Elab.async false
set_option linter.all false
set_option maxRecDepth 100000
set_option maxHeartbeats 4000000
namespace Sl
open PySem PySem.Spec L2 OwnR LamX
/-! ### an error of an own class with one field (rows of k07/K7) -/
def spEInit (C : Addr) (fld : Str) : Sp := fun vs H Q _ => ∃ (a : Addr) (v : V), vs = [.ref a, v] ∧ H a = some (exo a C none) ∧ ∀ dx, H dx = none → dx ≠ a → Q .non (upd (upd H dx (exd dx [(fld, v)])) a (exo a C (some dx)))
structure ErrF (P : Program) (w : World) (K : PySem.W.Frag) (mg : Str → Option Value) (base : Heap) (x fld : Str) (C : Addr) : Prop where
  T : OexC K C
  g : mg x = some (.ref C)
  init : ∃ fI fd ps, PySem.W.findIn K (.ref C) "__init__" = some (some (.ref fI)) ∧ PySem.W.typeIn K (.ref fI) = some (.type "function") ∧ Binds K fd ps [] ∧ FnOk P w K mg base CX0 1 fI fd ps (spEInit C fld)
def FldE (C : Addr) (fld : Str) (v : V) (H : Hp) (E : XK) : Prop := ∀ H' d fs, Same H H' → H' d = some (.xd fs) → fs.lookup fld = some v → E (.ref C) (some d) H'
theorem fld_mk {C : Addr} {fld : Str} {v : V} {H H1 : Hp} {E : XK} (k : FldE C fld v H E) (s : Same H H1) : ∀ a, H1 a = none → spEInit C fld (.ref a :: ([v] ++ [])) (upd H1 a (exo a C none))
    (fun r H2 => r = .non ∧ ∃ (d : Addr) (fs : List (Str × V)), H2 a = some (exo a C (some d)) ∧ H2 d = some (exd d fs) ∧ H1 d = none ∧ E (.ref C) (some d) (upd (del H2 a) d (.xd fs))) (fun _ _ _ => False) := by
  intro a ha
  refine ⟨a, v, rfl, upd_same, fun dx hdx ne => ⟨rfl, dx, [(fld, v)], upd_same, ?_, ?_, ?_⟩⟩
  · rw [upd_ne ne, upd_same]
  · rw [upd_ne ne] at hdx
    exact hdx
  · have hdx1 : H1 dx = none := by rw [upd_ne ne] at hdx; exact hdx
    refine k _ dx [(fld, v)] (fun b o e => ?_) upd_same (by simp [List.lookup])
    have nb : b ≠ dx := fun z => by rw [z] at e; have := s _ _ e; rw [hdx1] at this; cases this
    have na : b ≠ a := fun z => by rw [z] at e; have := s _ _ e; rw [ha] at this; cases this
    rw [upd_ne nb, del_ne na, upd_ne na, upd_ne nb, upd_ne na]
    exact s _ _ e
section
variable {P : Program} {w : World} {K : PySem.W.Frag} {mg : Str → Option Value} {base : Heap}
def nOInit : List Str := ["self", "index"]
theorem scOInit : FnScope nOInit ["self", "index"] (defScope sInvalidOperationInit) := ⟨rfl, rfl, rfl, by decide +kernel, rfl, by decide +kernel, by decide +kernel⟩
theorem ok_oInit {f C : Addr} {fd : FuncData} (F : Fun K "__init__" "InvalidOperation.__init__" sInvalidOperationInit f fd) (T : OexC K C) (hno : PySem.W.findIn K (.ref C) "index" = some none) : FnOk P w K mg base CX0 1 f fd ["self", "index"] (spEInit C "index") := by
  refine F.ok scOInit (fun vs H Q E h => ?_) (fun cdv A outer s H vs Q E hr h => ?_)
  · obtain ⟨a, v, rfl, _⟩ := h
    rfl
  · obtain ⟨a, v, rfl, ha, k⟩ := h
    have nd := scOInit.nd
    refine ⟨_, pss_one (ps_ost (pv 0) (pv 1)), ?_⟩
    exact ⟨_, rfl, _, rfl, a, C, rfl, T, hno, .inl ⟨ha, fun dx h1 h2 => k dx h1 h2⟩⟩
/-! ### _is_operation -/
def opN : List (Str × Nat) := [("join", 3), ("remove", 1), ("set_kind", 2)]
/-- the dicts of the module that tell of operations -/
structure OpT (K : PySem.W.Frag) (w : World) (mg : Str → Option Value) (ap gp fJ fR fS : Addr) : Prop where
  mA : mg "ACTIONS" = some (.ref ap)
  mG : mg "ARGUMENTS" = some (.ref gp)
  aJ : KDct K w ap "join" (.ref fJ)
  aR : KDct K w ap "remove" (.ref fR)
  aS : KDct K w ap "set_kind" (.ref fS)
  gJ : KDct K w gp "join" (.int 3)
  gR : KDct K w gp "remove" (.int 1)
  gS : KDct K w gp "set_kind" (.int 2)
  ng : (gp == sysModules) = false
def spIsOp : Sp := fun vs H Q _ => ∃ (t : Addr) (nm : Str) (m : Nat) (rest : List V), vs = [.ref t] ∧ H t = some (.tup (.str nm :: rest)) ∧ (nm, m) ∈ opN ∧ rest.length ≤ 10 ∧ Q (.bl (decide (rest.length = m))) H
theorem scIsOp : FnScope ["value"] ["value"] (defScope sIsOperation) := ⟨rfl, rfl, rfl, by decide +kernel, rfl, by decide +kernel, by decide +kernel⟩
theorem OpT.arg {ap gp fJ fR fS : Addr} (O : OpT K w mg ap gp fJ fR fS) {nm : Str} {m : Nat} (h : (nm, m) ∈ opN) : KDct K w gp nm (.int ((m : Nat) : Int)) := by
  unfold opN at h
  rcases List.mem_cons.mp h with e | h
  · cases e; exact O.gJ
  rcases List.mem_cons.mp h with e | h
  · cases e; exact O.gR
  · cases List.mem_singleton.mp h; exact O.gS
theorem ok_isOp {f ap gp fJ fR fS : Addr} {fd : FuncData} (F : Fun K "_is_operation" "_is_operation" sIsOperation f fd) (M : Mg mg) (O : OpT K w mg ap gp fJ fR fS) : FnOk P w K mg base CX0 1 f fd ["value"] spIsOp := by
  refine F.ok scIsOp (fun vs H Q E h => ?_) (fun cdv A outer s H vs Q E hr h => ?_)
  · obtain ⟨t, nm, m, rest, rfl, _⟩ := h
    rfl
  · obtain ⟨t, nm, m, rest, rfl, ht, hm, h10, k⟩ := h
    have nd := scIsOp.nd
    refine ⟨_, pss_cons (ps_if (PW.pt (pw_or (pt_not (pt_val (pe_callB call_isi (by rfl) M.isinstance boot_isinstance (pa_cons (pv 0) (pa_cons (pe_bltn (v := .ty "tuple") (by rfl) M.tuple boot_tTuple rfl) pa_nil)))))
        (pw_or (pt_cmpR op_eq (pe_callB call_len_seq (by rfl) M.len boot_len (pa_cons (pv 0) pa_nil)) pe_int (nomark _))
        (pw_or1 (pt_not (pt_val (pe_callB call_isi (by rfl) M.isinstance boot_isinstance (pa_cons (pe_ix (r := rIxT K) ix_tup (pv 0) pe_int (fun _ _ => rfl)) (pa_cons (pe_bltn (v := .ty "str") (by rfl) M.str boot_tStr rfl) pa_nil))))))))) (pss_one (ps_ret pe_bl)) pss_nil)
      (pss_one (ps_ret (pe_cmpR op_eq (pe_kget (pe_glob (v := .ref gp) (by rfl) O.mG rfl) (pe_ix (r := rIxT K) ix_tup (pv 0) pe_int (fun _ _ => rfl)) ⟨rfl, rfl, rfl, rfl⟩) (pe_op op_sub (pe_callB call_len_seq (by rfl) M.len boot_len (pa_cons (pv 0) pa_nil)) pe_int) (nomark _)))), ?_⟩
    have key := O.arg hm
    refine ⟨_, rfl, _, _, _, _, true, rfl, .ty _, .base (.tup ht), kit_ty (by decide +kernel), true, rfl, iteF ?_⟩
    refine ⟨_, rfl, t, _, rfl, .inr (SqT.of ht), rfl, _, rfl, ?_⟩
    rw [decide_eq_false (by intro z; have := V.int.inj z; rw [List.length_cons] at this; omega)]
    refine iteF ?_
    refine ⟨_, rfl, t, _, ((0 : Nat) : Int), .str nm, rfl, rfl, SqT.of ht, atI_nat rfl, _, _, _, _, true, rfl, .ty _, .base (.str nm), kit_ty (by decide +kernel), true, rfl, iteF ?_⟩
    refine ⟨gp, rfl, O.ng, ⟨_, _, key⟩, _, rfl, t, _, ((0 : Nat) : Int), .str nm, rfl, rfl, SqT.of ht, atI_nat rfl, nm, _, rfl, key, _, rfl, t, _, rfl, .inr (SqT.of ht), _, _, rfl, rfl, ?_⟩
    dsimp only [rEq]
    refine ⟨rfl, ?_⟩
    rw [show decide (V.int ((m : Nat) : Int) = V.int ((((V.str nm :: rest).length : Nat) : Int) - 1)) = decide (rest.length = m) by
      rw [decide_eq_decide, List.length_cons]
      exact ⟨fun z => by have := V.int.inj z; omega, fun z => by congr 1; omega⟩]
    exact k
end
end Sl

set_option Elab.async false
set_option linter.all false
set_option maxRecDepth 100000
set_option maxHeartbeats 4000000
namespace Sl
open PySem PySem.Spec L2 OwnR LamX
/-! ### states: what is there, and the operation that led to it -/
abbrev LS := St2 × Option Op
def OpVAt (H : Hp) (v : V) : Option Op → Prop
  | none => v = .non
  | some o => ∃ b, v = .ref b ∧ H b = some (.tup o.vs)
def StAt (CR : Addr) (H : Hp) (t : Addr) (s : LS) : Prop := ∃ (p a : Addr) (o : V), H t = some (.tup [.ref p, .ref a, o]) ∧ RoadAt CR H p s.1.1 ∧ CarsAt H a s.1.2 ∧ OpVAt H o s.2
def StsAt (CR : Addr) (H : Hp) (l : Addr) (ss : List LS) : Prop := ∃ ts : List Addr, H l = some (.lst (ts.map V.ref)) ∧ ts.length = ss.length ∧ ∀ (i : Nat) (t : Addr) (s : LS), ts[i]? = some t → ss[i]? = some s → StAt CR H t s
def RssAt (H : Hp) (l : Addr) (rs : List Rs) : Prop := ∃ vs : List V, H l = some (.lst vs) ∧ vs.length = rs.length ∧ ∀ (i : Nat) (v : V) (r : Rs), vs[i]? = some v → rs[i]? = some r → RsAt H v r
/-- all but lists and tables stays -/
def NL (H H' : Hp) : Prop := ∀ b o, H b = some o → (∀ xs, o ≠ .lst xs) → (∀ ps, o ≠ .tbl ps) → H' b = some o
theorem NL.of {H H' : Hp} (e : ExtN H H') : NL H H' := fun b o h _ n => e b o h n
theorem NL.put {H : Hp} {a : Addr} {xs : List V} (h : H a = some (.lst xs)) (o : HO) : NL H (upd H a o) := fun b u e n _ => by rw [upd_ne (ne_of e h (n _))]; exact e
theorem NL.tup {H H' : Hp} (k : NL H H') {a : Addr} {xs : List V} (h : H a = some (.tup xs)) : H' a = some (.tup xs) := k _ _ h (fun _ z => nomatch z) (fun _ z => nomatch z)
theorem RoadAt.nl {C : Addr} {H H' : Hp} {p : Addr} {secs : List Sec} (h : RoadAt C H p secs) (k : NL H H') : RoadAt C H' p secs := by
  obtain ⟨dx, t, u, h1, ⟨ts, a1, a2, a3⟩, h3⟩ := h
  exact ⟨dx, t, u, k _ _ h1 (fun _ z => nomatch z) (fun _ z => nomatch z), ⟨ts, k.tup a1, a2, fun i t s e1 e2 => k.tup (a3 i t s e1 e2)⟩, h3⟩
theorem CarsAt.nl {H H' : Hp} {a : Addr} {cars : List Car} (h : CarsAt H a cars) (k : NL H H') : CarsAt H' a cars := by
  obtain ⟨ts, a1, a2, a3⟩ := h
  exact ⟨ts, k.tup a1, a2, fun i t s e1 e2 => k.tup (a3 i t s e1 e2)⟩
theorem OpVAt.nl {H H' : Hp} {v : V} {o : Option Op} (h : OpVAt H v o) (k : NL H H') : OpVAt H' v o := by
  cases o with
  | none => exact h
  | some o =>
    obtain ⟨b, h1, h2⟩ := h
    exact ⟨b, h1, k.tup h2⟩
theorem StAt.nl {CR : Addr} {H H' : Hp} {t : Addr} {s : LS} (h : StAt CR H t s) (k : NL H H') : StAt CR H' t s := by
  obtain ⟨p, a, o, h1, h2, h3, h4⟩ := h
  exact ⟨p, a, o, k.tup h1, h2.nl k, h3.nl k, h4.nl k⟩
theorem RsAt.nl {H H' : Hp} {v : V} {r : Rs} (h : RsAt H v r) (k : NL H H') : RsAt H' v r := by
  cases r with
  | tick i => exact h
  | chg ns g =>
    obtain ⟨d, h1, ts, p1, p2, p3⟩ := h
    exact ⟨d, h1, ts, k _ _ p1 (fun _ z => nomatch z) (fun _ z => nomatch z), p2, fun i t m e1 e2 => k.tup (p3 i t m e1 e2)⟩
theorem StsAt.ext {CR : Addr} {H H' : Hp} {l : Addr} {ss : List LS} (h : StsAt CR H l ss) (e : ExtN H H') : StsAt CR H' l ss := by
  obtain ⟨ts, h1, h2, h3⟩ := h
  exact ⟨ts, ExtN.lst e h1, h2, fun i t s e1 e2 => (h3 i t s e1 e2).nl (NL.of e)⟩
theorem RssAt.ext {H H' : Hp} {l : Addr} {rs : List Rs} (h : RssAt H l rs) (e : ExtN H H') : RssAt H' l rs := by
  obtain ⟨vs, h1, h2, h3⟩ := h
  exact ⟨vs, ExtN.lst e h1, h2, fun i v r e1 e2 => (h3 i v r e1 e2).nl (NL.of e)⟩
theorem StsAt.put {CR : Addr} {H : Hp} {l a : Addr} {ss : List LS} {xs : List V} (h : StsAt CR H l ss) (ha : H a = some (.lst xs)) (n : l ≠ a) (o : HO) : StsAt CR (upd H a o) l ss := by
  obtain ⟨ts, h1, h2, h3⟩ := h
  exact ⟨ts, by rw [upd_ne n]; exact h1, h2, fun i t s e1 e2 => (h3 i t s e1 e2).nl (NL.put ha o)⟩
theorem RssAt.put {H : Hp} {l a : Addr} {rs : List Rs} {xs : List V} (h : RssAt H l rs) (ha : H a = some (.lst xs)) (n : l ≠ a) (o : HO) : RssAt (upd H a o) l rs := by
  obtain ⟨vs, h1, h2, h3⟩ := h
  exact ⟨vs, by rw [upd_ne n]; exact h1, h2, fun i v r e1 e2 => (h3 i v r e1 e2).nl (NL.put ha o)⟩
theorem get_snoc {α : Type} {l : List α} {x y : α} {i : Nat} (h : (l ++ [x])[i]? = some y) : (i < l.length ∧ l[i]? = some y) ∨ (i = l.length ∧ x = y) := by
  rcases Nat.lt_or_ge i l.length with lt | ge
  · rw [List.getElem?_append_left lt] at h
    exact .inl ⟨lt, h⟩
  · rw [List.getElem?_append_right ge] at h
    have hl := (List.getElem?_eq_some_iff.mp h).1
    have : i = l.length := by
      have : i - l.length < 1 := hl
      omega
    subst this
    rw [Nat.sub_self] at h
    exact .inr ⟨rfl, Option.some.inj h⟩
theorem StsAt.snoc {CR : Addr} {H : Hp} {l t : Addr} {ss : List LS} {s : LS} (h : StsAt CR H l ss) (hs : StAt CR H t s) : ∃ xs : List V, H l = some (.lst xs) ∧ xs.length = ss.length ∧ StsAt CR (upd H l (.lst (xs ++ [.ref t]))) l (ss ++ [s]) := by
  obtain ⟨ts, h1, h2, h3⟩ := h
  refine ⟨_, h1, by rw [List.length_map, h2], ts ++ [t], by rw [upd_same, List.map_append]; rfl, by rw [List.length_append, List.length_append, h2]; rfl, fun i u v e1 e2 => ?_⟩
  rcases get_snoc e1 with ⟨l1, e1⟩ | ⟨i1, rfl⟩
  · rcases get_snoc e2 with ⟨_, e2⟩ | ⟨i2, rfl⟩
    · exact (h3 i u v e1 e2).nl (NL.put h1 _)
    · omega
  · rcases get_snoc e2 with ⟨l2, e2⟩ | ⟨_, rfl⟩
    · omega
    · exact hs.nl (NL.put h1 _)
theorem RssAt.snoc {H : Hp} {l : Addr} {rs : List Rs} {r : Rs} {v : V} (h : RssAt H l rs) (hs : RsAt H v r) : ∃ xs : List V, H l = some (.lst xs) ∧ xs.length = rs.length ∧ RssAt (upd H l (.lst (xs ++ [v]))) l (rs ++ [r]) := by
  obtain ⟨vs, h1, h2, h3⟩ := h
  refine ⟨_, h1, h2, vs ++ [v], upd_same, by rw [List.length_append, List.length_append, h2]; rfl, fun i u q e1 e2 => ?_⟩
  rcases get_snoc e1 with ⟨l1, e1⟩ | ⟨i1, rfl⟩
  · rcases get_snoc e2 with ⟨_, e2⟩ | ⟨i2, rfl⟩
    · exact (h3 i u q e1 e2).nl (NL.put h1 _)
    · omega
  · rcases get_snoc e2 with ⟨l2, e2⟩ | ⟨_, rfl⟩
    · omega
    · exact hs.nl (NL.put h1 _)
/-! ### many operations -/
def runO : St2 → List Op → Er ⊕ (List LS × List Rs)
  | _, [] => .inr ([], [])
  | S, o :: r => match stepO S o with
    | .inl e => .inl e
    | .inr (S', v) => match runO S' r with
      | .inl e => .inl e
      | .inr (ls, vs) => .inr ((S', some o) :: ls, v :: vs)
def OpsOk : St2 → List Op → Prop
  | _, [] => True
  | S, o :: r => OpOk S o ∧ ∀ S' v, stepO S o = .inr (S', v) → OpsOk S' r
theorem runO_nil (S : St2) : runO S [] = .inr ([], []) := rfl
theorem runO_bad {S : St2} {o : Op} {r : List Op} {e : Er} (h : stepO S o = .inl e) : runO S (o :: r) = .inl e := by
  unfold runO
  rw [h]
theorem runO_bad2 {S S' : St2} {o : Op} {r : List Op} {v : Rs} {e : Er} (h : stepO S o = .inr (S', v)) (h2 : runO S' r = .inl e) : runO S (o :: r) = .inl e := by
  unfold runO
  rw [h]
  show (match runO S' r with | .inl e => _ | .inr (ls, vs) => _) = _
  rw [h2]
theorem runO_good {S S' : St2} {o : Op} {r : List Op} {v : Rs} {ls : List LS} {vs : List Rs} (h : stepO S o = .inr (S', v)) (h2 : runO S' r = .inr (ls, vs)) : runO S (o :: r) = .inr ((S', some o) :: ls, v :: vs) := by
  unfold runO
  rw [h]
  show (match runO S' r with | .inl e => _ | .inr (ls, vs) => _) = _
  rw [h2]
/-- the middle of many operations -/
structure Mid (S0 : St2) (ops : List Op) (i : Nat) (S : St2) (ls : List LS) (rs : List Rs) : Prop where
  bad : ∀ e, runO S (ops.drop i) = .inl e → runO S0 ops = .inl e
  good : ∀ l2 r2, runO S (ops.drop i) = .inr (l2, r2) → runO S0 ops = .inr (ls ++ l2, rs ++ r2)
  ok : StOk S
  oks : OpsOk S (ops.drop i)
  ll : ls.length = i
  lr : rs.length = i
theorem Mid.zero {S : St2} {ops : List Op} (h : StOk S) (o : OpsOk S ops) : Mid S ops 0 S [] [] := ⟨fun _ h => h, fun _ _ h => h, h, o, rfl, rfl⟩
theorem drop_at {α : Type} {l : List α} {i : Nat} {x : α} (h : l[i]? = some x) : l.drop i = x :: l.drop (i + 1) := by
  have hl := (List.getElem?_eq_some_iff.mp h).1
  rw [List.drop_eq_getElem_cons hl, (List.getElem?_eq_some_iff.mp h).2]
theorem Mid.okO {S0 S : St2} {ops : List Op} {i : Nat} {ls : List LS} {rs : List Rs} {o : Op} (m : Mid S0 ops i S ls rs) (h : ops[i]? = some o) : OpOk S o := by
  have := m.oks
  rw [drop_at h] at this
  exact this.1
theorem Mid.err {S0 S : St2} {ops : List Op} {i : Nat} {ls : List LS} {rs : List Rs} {o : Op} {e : Er} (m : Mid S0 ops i S ls rs) (h : ops[i]? = some o) (he : stepO S o = .inl e) : runO S0 ops = .inl e :=
  m.bad e (by rw [drop_at h]; exact runO_bad he)
theorem Mid.step {S0 S S' : St2} {ops : List Op} {i : Nat} {ls : List LS} {rs : List Rs} {o : Op} {v : Rs} (m : Mid S0 ops i S ls rs) (h : ops[i]? = some o) (he : stepO S o = .inr (S', v)) : Mid S0 ops (i + 1) S' (ls ++ [(S', some o)]) (rs ++ [v]) where
  bad := fun e h2 => m.bad e (by rw [drop_at h]; exact runO_bad2 he h2)
  good := fun l2 r2 h2 => by
    rw [List.append_assoc, List.append_assoc]
    exact m.good _ _ (by rw [drop_at h]; exact runO_good he h2)
  ok := step_ok m.ok (m.okO h) he
  oks := by
    have := m.oks
    rw [drop_at h] at this
    exact this.2 _ _ he
  ll := by rw [List.length_append, m.ll]; rfl
  lr := by rw [List.length_append, m.lr]; rfl
theorem Mid.all {S0 S : St2} {ops : List Op} {ls : List LS} {rs : List Rs} (m : Mid S0 ops ops.length S ls rs) : runO S0 ops = .inr (ls, rs) := by
  have := m.good [] [] (by rw [List.drop_length]; rfl)
  rw [List.append_nil, List.append_nil] at this
  exact this
/-- what an operation's tuple begins with -/
theorem Op.shape (o : Op) : ∃ nm rest, o.vs = .str nm :: rest ∧ (nm, rest.length) ∈ opN ∧ 1 ≤ rest.length ∧ rest.length ≤ 3 := by
  cases o with
  | join n s p => exact ⟨"join", _, rfl, by simp [opN], by simp, by simp⟩
  | rem n => exact ⟨"remove", _, rfl, by simp [opN], by simp, by simp⟩
  | kind i b => exact ⟨"set_kind", _, rfl, by simp [opN], by simp, by simp⟩
end Sl

set_option Elab.async false
set_option linter.all false
set_option maxRecDepth 100000
set_option maxHeartbeats 4000000
namespace Sl
open PySem PySem.Spec L2 OwnR LamX
section
variable {P : Program} {w : World} {K : PySem.W.Frag} {mg : Str → Option Value} {base : Heap}
/-! ### _execute -/
/-- what may be asked of it: operations, up to one that is none -/
def ExecR (CR CNm CMy CU CO : Addr) (T : List (Addr × Str)) (H : Hp) (sl : Addr) (bs : List Addr) (Q : Addr → Addr → Hp → Prop) (E : XK) : Prop :=
  ∃ m : Nat, (∀ (i : Nat) (b : Addr), i < m → bs[i]? = some b → ∃ nm rest, H b = some (.tup (.str nm :: rest)) ∧ (nm, rest.length) ∈ opN ∧ rest.length ≤ 3) ∧
    ((∃ (b : Addr) (nm : Str) (k : Nat) (rest : List V), bs[m]? = some b ∧ H b = some (.tup (.str nm :: rest)) ∧ (nm, k) ∈ opN ∧ rest.length ≠ k ∧ rest.length ≤ 10 ∧ FldE CO "index" (.int ((m : Nat) : Int)) H E) ∨
     (m = bs.length ∧ ∃ (ss : List LS) (S : St2) (q : Option Op) (ops : List Op), StsAt CR H sl ss ∧ ss.getLast? = some (S, q) ∧ StOk S ∧ bs.length = ops.length ∧ (∀ (i : Nat) (b : Addr) (o : Op), bs[i]? = some b → ops[i]? = some o → H b = some (.tup o.vs)) ∧ OpsOk S ops ∧ Tabs T H ∧ ss.length ≤ 500 ∧
      (∀ e, runO S ops = .inl e → ∀ H' cls d, ExtN H H' → Tabs T H' → ErAt CNm CMy CU H' cls d e → E cls d H') ∧
      (∀ ls rs, runO S ops = .inr (ls, rs) → ∀ H' s2 r2, ExtN H H' → Tabs T H' → StsAt CR H' s2 (ss ++ ls) → RssAt H' r2 rs → NewA H s2 → NewA H r2 → s2 ≠ r2 → Q s2 r2 H')))
def spExec (CR CNm CMy CU CO : Addr) (T : List (Addr × Str)) : Sp := fun vs H Q E => ∃ (sl ot : Addr) (bs : List Addr), vs = [.ref sl, .ref ot] ∧ H ot = some (.tup (bs.map V.ref)) ∧ bs.length ≤ 100 ∧ ExecR CR CNm CMy CU CO T H sl bs (fun s2 r2 H' => ∀ t, H' t = none → Q (.ref t) (upd H' t (.tup [.ref s2, .ref r2]))) E
def nExec : List Str := ["states", "operations", "index", "operation", "results", "action", "arguments", "road", "cars", "last", "result"]
theorem scExec : FnScope nExec ["states", "operations"] (defScope sExecute) := ⟨rfl, rfl, rfl, by decide +kernel, rfl, by decide +kernel, by decide +kernel⟩
def actsL (CR CNm CMy CU : Addr) (T : List (Addr × Str)) (fJ fR fS : Addr) : List (Addr × Sp) := [(fJ, fun vs H Q E => spJoin CR CNm CMy CU T (vs ++ []) H Q E), (fR, fun vs H Q E => spRemove CR CNm CMy CU T (vs ++ []) H Q E), (fS, fun vs H Q E => spSetK CR CNm CMy CU T (vs ++ []) H Q E)]
def Op.nm : Op → Str
  | .join _ _ _ => "join"
  | .rem _ => "remove"
  | .kind _ _ => "set_kind"
def Op.rest : Op → List V
  | .join n s p => [.str n, .int ((s : Nat) : Int), .int ((p : Nat) : Int)]
  | .rem n => [.str n]
  | .kind i b => [.int ((i : Nat) : Int), .str (kindS b)]
theorem Op.vs_eq (o : Op) : o.vs = .str o.nm :: o.rest := by cases o <;> rfl
theorem Op.rest1 (o : Op) : 1 ≤ o.rest.length := by cases o <;> simp [Op.rest]
theorem act_of {CR CNm CMy CU ap gp fJ fR fS : Addr} {T : List (Addr × Str)} (O : OpT K w mg ap gp fJ fR fS) (o : Op) : ∃ q ∈ actsL CR CNm CMy CU T fJ fR fS, KDct K w ap o.nm (.ref q.1) ∧ ∀ (H : Hp) (p a : Addr) (S : St2) (Q : VK) (E : XK), AtS CR T H p a S → OpOk S o → StepR CR CNm CMy CU T H S o Q E → q.2 (.ref p :: .ref a :: (o.rest ++ [])) H Q E := by
  cases o with
  | join n st pc => exact ⟨_, List.mem_cons_self, O.aJ, fun H p a S Q E A ok r => ⟨p, a, S, n, st, pc, rfl, A, ok, r⟩⟩
  | rem n => exact ⟨_, List.mem_cons_of_mem _ List.mem_cons_self, O.aR, fun H p a S Q E A ok r => ⟨p, a, S, n, rfl, A, r⟩⟩
  | kind i b => exact ⟨_, List.mem_cons_of_mem _ (List.mem_cons_of_mem _ List.mem_cons_self), O.aS, fun H p a S Q E A ok r => ⟨p, a, S, i, b, rfl, A, ok, r⟩⟩
theorem StsAt.last {CR : Addr} {H : Hp} {l : Addr} {ss : List LS} {s : LS} (h : StsAt CR H l ss) (e : ss.getLast? = some s) : ∃ (ts : List Addr) (t : Addr) (m : Nat), H l = some (.lst (ts.map V.ref)) ∧ (ts.map V.ref).length = m + 1 ∧ ts[m]? = some t ∧ StAt CR H t s := by
  obtain ⟨ts, h1, h2, h3⟩ := h
  obtain ⟨pre, hp⟩ := List.getLast?_eq_some_iff.mp e
  have hl : ss.length = pre.length + 1 := by rw [hp, List.length_append]; rfl
  obtain ⟨t, ht⟩ : ∃ t, ts[pre.length]? = some t := ⟨_, List.getElem?_eq_getElem (by omega)⟩
  exact ⟨ts, t, pre.length, h1, by rw [List.length_map, h2, hl], ht, h3 _ t s ht (by rw [hp, List.getElem?_append_right (Nat.le_refl _), Nat.sub_self]; rfl)⟩
theorem ok_exec {f fO fJ fR fS ap gp CR CNm CMy CU CO : Addr} {fd dO dJ dR dS : FuncData} {T : List (Addr × Str)} (F : Fun K "_execute" "_execute" sExecute f fd) (M : Mg mg) (O : OpT K w mg ap gp fJ fR fS) (W : ErrF P w K mg base "InvalidOperation" "index" CO)
    (BO : Fb K mg "_is_operation" sIsOperation ["value"] fO dO) (GO : FnOk P w K mg base CX0 1 fO dO ["value"] spIsOp)
    (BJ : Fb K mg "_join" sJoin ["road", "cars", "name", "start", "pace"] fJ dJ) (GJ : FnOk P w K mg base (L2.CX P w) 8 fJ dJ ["road", "cars", "name", "start", "pace"] (spJoin CR CNm CMy CU T))
    (BR : Fb K mg "_remove" sRemove ["road", "cars", "name"] fR dR) (GR : FnOk P w K mg base (L2.CX P w) 8 fR dR ["road", "cars", "name"] (spRemove CR CNm CMy CU T))
    (BS : Fb K mg "_set_kind" sSetKind ["road", "cars", "section", "kind"] fS dS) (GS : FnOk P w K mg base (L2.CX P w) 8 fS dS ["road", "cars", "section", "kind"] (spSetK CR CNm CMy CU T)) : FnOk P w K mg base (L2.CX P w) 9 f fd ["states", "operations"] (spExec CR CNm CMy CU CO T) := by
  obtain ⟨fI, dI, ps, w1, w2, w3, w4⟩ := W.init
  refine F.okX scExec (fun vs H Q E h => ?_) (fun cdv A outer s H vs Q E hr h => ?_)
  · obtain ⟨sl, ot, bs, rfl, _⟩ := h
    rfl
  · obtain ⟨sl, ot, bs, rfl, hot, h100, m, good, h⟩ := h
    have nd := scExec.nd
    have hr1 : Room 1 (A.deeper (PyProof.Rows.envOfC "_execute" (defScope sExecute) s.heap.objs.size f cdv)) := hr.mono (by decide)
    have hr2 : Room (1 + 1) (A.deeper (PyProof.Rows.envOfC "_execute" (defScope sExecute) s.heap.objs.size f cdv)) := hr.mono (by decide)
    have acts : ∀ q ∈ actsL CR CNm CMy CU T fJ fR fS, FnR P w K mg base (L2.CX P w) 8 q.1 q.2 ∧ PySem.W.keepIn K (.ref q.1) = true := fun q hq => by
      unfold actsL at hq
      rcases List.mem_cons.mp hq with rfl | hq
      · exact ⟨GJ.raw BJ.bd .nil, BJ.fn.kp⟩
      rcases List.mem_cons.mp hq with rfl | hq
      · exact ⟨GR.raw BR.bd .nil, BR.fn.kp⟩
      · cases List.mem_singleton.mp hq
        exact ⟨GS.raw BS.bd .nil, BS.fn.kp⟩
    refine ⟨_, pss_cons (ps_for (passes_of rfl) rfl (pi_enumT (by rfl) M.enumerate (pa_cons (pv 1) pa_nil)) (pg_tup rfl (pgs_cons (pg_name (i := 2) nd rfl (.inl rfl)) (pgs_cons (pg_name (i := 3) nd rfl (.inl rfl)) pgs_nil)))
        (pss_one (ps_if (pt_not (pt_val (pe_call GO hr1 (by rfl) BO.at_ BO.fn.kp BO.bd .nil pass0 (pa_cons (pv 3) pa_nil)))) (pss_one (ps_raise rfl (takes_of rfl rfl rfl rfl) (pmk_oex W.T w1 w2 w4 hr2 w3 .nil pass0 (by rfl) W.g (pa_cons (pv 2) pa_nil)))) pss_nil)))
      (pss_cons (ps_set (i := 0) nd rfl (.inl rfl) (pe_callTy call_list_of (by rfl) M.list (by decide +kernel) (pa_cons (pv 0) pa_nil)))
      (pss_cons (ps_set (i := 4) nd rfl (.inl rfl) (pe_lst pa_nil))
      (pss_cons (ps_for (passes_of rfl) rfl (pi_tup (pv 1)) (pg_name (i := 3) nd rfl (.inl rfl))
        (pss_cons (ps_set (i := 5) nd rfl (.inl rfl) (pe_ix (r := rIxD K w) ix_kdict (pe_glob (v := .ref ap) (by rfl) O.mA rfl) (pe_ix (r := rIxT K) ix_tup (pv 3) pe_int (fun _ _ => rfl)) (fun _ _ => rfl)))
        (pss_cons (ps_set (i := 6) nd rfl (.inl rfl) (pe_slice sl_tup (pv 3) (po_some pe_int) po_none))
        (pss_cons (ps_asg (pe_ix (r := rIxL K) ix_list (pv 0) (pe_un un_neg pe_int) (fun _ _ => rfl)) (pg_tup rfl (pgs_cons (pg_name (i := 7) nd rfl (.inl rfl)) (pgs_cons (pg_name (i := 8) nd rfl (.inl rfl)) (pgs_cons (pg_name (i := 9) nd rfl (.inl rfl)) pgs_nil)))))
        (pss_cons (ps_asg (pe_callVs (i := 5) acts hr (passes_call (takes_of rfl rfl rfl rfl) fun _ _ _ _ h => h) rfl (.inl rfl) (pa_cons (pv 7) (pa_cons (pv 8) (StX.pa_star (pv 6) pa_nil)))) (pg_tup rfl (pgs_cons (pg_name (i := 7) nd rfl (.inl rfl)) (pgs_cons (pg_name (i := 8) nd rfl (.inl rfl)) (pgs_cons (pg_name (i := 10) nd rfl (.inl rfl)) pgs_nil)))))
        (pss_cons (ps_expr (pe_bm PySem.F.plainAttrs_list PySem.F.slot_list_append PySem.F.type_list_append mt_append (pv 0) (pa_cons (pe_tup (pa_cons (pv 7) (pa_cons (pv 8) (pa_cons (pv 3) pa_nil)))) pa_nil)))
        (pss_one (ps_expr (pe_bm PySem.F.plainAttrs_list PySem.F.slot_list_append PySem.F.type_list_append mt_append (pv 4) (pa_cons (pv 10) pa_nil))))))))))
      (pss_one (ps_ret (pe_tup (pa_cons (pv 0) (pa_cons (pv 4) pa_nil)))))))), ?_⟩
    have hbl : (bs.map V.ref).length = bs.length := by rw [List.length_map]
    refine ⟨_, rfl, ot, bs.map V.ref, rfl, SqT.of hot, for_it walk_enumT
      (fun i σ H1 => ∃ v2 v3, σ = [some (.ref sl), some (.ref ot), v2, v3, none, none, none, none, none, none, none] ∧ Same H H1 ∧ i ≤ m)
      ⟨none, none, rfl, fun b o e => e, Nat.zero_le _⟩ (fun i σ H1 _ ⟨_, _, _, s1, _⟩ => SqT.of (s1 _ _ hot)) ?_ ?_⟩
    · rintro i x σ H1 H2 hi ⟨v2, v3, rfl, s1, him⟩ ⟨Tq, x1, x2, rfl, hT, rfl, e1, e2⟩
      cases e1
      rw [hbl] at hi
      obtain ⟨b, hb⟩ : ∃ b, bs[i]? = some b := ⟨_, List.getElem?_eq_getElem hi⟩
      obtain rfl : x2 = V.ref b := by
        have e2 : (bs.map V.ref)[i]? = some x2 := e2
        rw [List.getElem?_map, hb] at e2
        exact (Option.some.inj e2).symm
      have sT := sameNew hT (.tup [V.int ((i : Nat) : Int), V.ref b])
      have s02 := s1.trans sT
      refine ⟨Tq, _, rfl, SqT.of upd_same, rfl, _, _, rfl, _, _, rfl, rfl, ?_⟩
      by_cases him2 : i < m
      · obtain ⟨nm, rest, hh, hn, h3⟩ := good i b him2 hb
        refine ⟨_, rfl, b, nm, rest.length, rest, rfl, s02 _ _ hh, hn, by omega, ?_⟩
        rw [decide_eq_true rfl]
        exact ⟨_, rfl, iteF ⟨_, _, rfl, s02, by omega⟩⟩
      · rcases h with ⟨b2, nm, k, rest, hb2, hh, hn, hne, h10, kE⟩ | ⟨em, _⟩
        · have eim : i = m := by omega
          subst eim
          obtain rfl : b = b2 := by rw [hb] at hb2; exact Option.some.inj hb2
          refine ⟨_, rfl, b, nm, k, rest, rfl, s02 _ _ hh, hn, h10, ?_⟩
          rw [decide_eq_false hne]
          exact ⟨_, rfl, iteT ⟨_, rfl, by show 1 ≤ 1000; decide, fld_mk kE s02⟩⟩
        · omega
    rintro σ H1 ⟨v2, v3, rfl, s1, him⟩
    rcases h with ⟨b2, nm, k, rest, hb2, _⟩ | ⟨em, ss, S0, q0, ops, hss, hlast, hS, hlen, hops, hok, hT, h500, kE, k⟩
    · have := (List.getElem?_eq_some_iff.mp hb2).1
      rw [hbl] at him
      omega
    obtain ⟨ts, t1, t2, t3⟩ := hss
    refine ⟨_, rfl, sl, _, rfl, .inl (SqL.of (s1 _ _ t1)), fun L hL => ?_⟩
    have nbL : ∀ b o, H b = some o → b ≠ L := fun b o e => ne_of_none (s1 _ _ e) hL
    have nL : NewA H L := fun o e => absurd rfl (nbL L o e)
    have sL := sameNew hL (.lst (ts.map V.ref))
    refine ⟨Nat.zero_le _, fun R hR => ?_⟩
    have sR := sameNew hR (.lst [])
    have s3 := s1.trans (sL.trans sR)
    have nbR : ∀ b o, H b = some o → b ≠ R := fun b o e => ne_of_none (sL _ _ (s1 _ _ e)) hR
    have nR : NewA H R := fun o e => absurd rfl (nbR R o e)
    have nLR : L ≠ R := ne_of_none upd_same hR
    have hL3 : upd (upd H1 L (.lst (ts.map V.ref))) R (.lst []) L = some (.lst (ts.map V.ref)) := sR _ _ upd_same
    have hR3 : upd (upd H1 L (.lst (ts.map V.ref))) R (.lst []) R = some (.lst []) := upd_same
    generalize upd (upd H1 L (.lst (ts.map V.ref))) R (.lst []) = H3 at s3 hL3 hR3 ⊢
    clear sL sR hL hR
    refine ⟨_, rfl, ot, rfl, ⟨_, SqT.of (s3 _ _ hot)⟩, for_it walk_tup
      (fun i σ H4 => ∃ (S : St2) (q : Option Op) (ls : List LS) (rs : List Rs) (v2 v3 v5 v6 v7 v8 v9 v10 : Option V), σ = [some (.ref L), some (.ref ot), v2, v3, some (.ref R), v5, v6, v7, v8, v9, v10] ∧ ExtN H H4 ∧ Tabs T H4 ∧ Mid S0 ops i S ls rs ∧ (ss ++ ls).getLast? = some (S, q) ∧ StsAt CR H4 L (ss ++ ls) ∧ RssAt H4 R rs)
      ⟨S0, q0, [], [], _, _, _, _, _, _, _, _, rfl, ExtN.same s3, hT.ext s3, Mid.zero hS hok, by rw [List.append_nil]; exact hlast, by rw [List.append_nil]; exact ⟨ts, hL3, t2, fun i t s e1 e2 => (t3 i t s e1 e2).nl (NL.of (ExtN.same s3))⟩, ⟨[], hR3, rfl, fun _ _ _ z => nomatch z⟩⟩
      (fun i σ H4 _ ⟨_, _, _, _, _, _, _, _, _, _, _, _, _, e4, _⟩ => SqT.of (ExtN.tup e4 hot)) ?_ ?_⟩
    · rintro i y σ Hz4 H4 hi ⟨S, q, ls, rs, v2, v3, v5, v6, v7, v8, v9, v10, rfl, e4, T4, mid, hl, stL, rR⟩ ⟨e, hy⟩
      subst e
      rw [hbl] at hi
      obtain ⟨b, hb⟩ : ∃ b, bs[i]? = some b := ⟨_, List.getElem?_eq_getElem hi⟩
      obtain ⟨o, ho⟩ : ∃ o, ops[i]? = some o := ⟨_, List.getElem?_eq_getElem (by omega)⟩
      obtain rfl : y = V.ref b := by
        rw [List.getElem?_map, hb] at hy
        exact (Option.some.inj hy).symm
      have hb4 := ExtN.tup e4 (hops i b o hb ho)
      rw [o.vs_eq] at hb4
      obtain ⟨fq, hfq, kd, run⟩ := act_of (CR := CR) (CNm := CNm) (CMy := CMy) (CU := CU) (T := T) O o
      have r1 := o.rest1
      -- the action, its arguments, what is there
      refine ⟨_, rfl, b, _, ((0 : Nat) : Int), .str o.nm, rfl, rfl, SqT.of hb4, atI_nat rfl, ap, o.nm, .ref fq.1, rfl, rfl, kd, ?_⟩
      refine ⟨_, rfl, 1, rfl, b, _, rfl, SqT.of hb4, fun z => ?_, fun z hz => ?_⟩
      · have z1 := z.1
        rw [show (some (1 : Int)) = some ((1 : Nat) : Int) from rfl, HT.sIx_nat, List.length_cons] at z1
        omega
      rw [show (some (1 : Int)) = some ((1 : Nat) : Int) from rfl, cut_from (by rw [List.length_cons]; omega)]
      have s5 := sameNew hz (.tup ((V.str o.nm :: o.rest).drop 1))
      have hz5 : upd H4 z (.tup ((V.str o.nm :: o.rest).drop 1)) z = some (.tup o.rest) := upd_same
      have e5 := e4.trans (ExtN.same s5)
      have T5 := T4.ext s5
      have st5 := stL.ext (ExtN.same s5)
      have rR5 := rR.ext (ExtN.same s5)
      have hb5 := s5 _ _ hb4
      generalize upd H4 z (.tup ((V.str o.nm :: o.rest).drop 1)) = H5 at s5 hz5 e5 T5 st5 rR5 hb5 ⊢
      obtain ⟨us, tl, mm, u1, u2, u3, p, a, qv, u4, rd, ct, u5⟩ := st5.last hl
      refine ⟨_, rfl, _, rfl, L, _, _, .ref tl, rfl, rfl, SqL.of u1, atI_lst u2 (map_atZ V.ref u3), tl, _, rfl, SqT.of u4, rfl, _, _, rfl, _, _, rfl, _, _, rfl, rfl, ?_⟩
      -- it runs
      refine ⟨fq, hfq, rfl, _, rfl, _, rfl, _, rfl, z, _, rfl, .inl (SqT.of hz5), ?_⟩
      refine run H5 p a S _ _ ⟨rd, ct, mid.ok, T5⟩ (mid.okO ho) ⟨fun er he H6 cls d e6 T6 hE => ?_, fun S' v he H6 t p2 a2 w6 e6 T6 ht6 rd6 ct6 hv6 => ?_⟩
      · exact kE er (mid.err ho he) H6 cls d (e5.trans e6) T6 hE
      have st6 := st5.ext e6
      have rR6 := rR5.ext e6
      have hb6 := ExtN.tup e6 hb5
      have e06 := e5.trans e6
      refine ⟨t, _, rfl, SqT.of ht6, rfl, _, _, rfl, _, _, rfl, _, _, rfl, rfl, ?_⟩
      -- the state
      have stt : ∃ xs, H6 L = some (.lst xs) := let ⟨_, h, _⟩ := st6; ⟨_, h⟩
      obtain ⟨xs0, hx0⟩ := stt
      refine ⟨_, rfl, .inl ⟨rfl, _, SqL.of hx0⟩, _, rfl, _, rfl, _, rfl, by show 3 ≤ sizeLine; decide, fun u hu7 => ?_⟩
      have s7 := sameNew hu7 (.tup [V.ref p2, V.ref a2, V.ref b])
      have e7 := ExtN.same s7
      have sn : StAt CR (upd H6 u (.tup [V.ref p2, V.ref a2, V.ref b])) u (S', some o) := ⟨p2, a2, .ref b, upd_same, rd6.ext e7, ct6.ext e7, b, rfl, by rw [o.vs_eq]; exact s7 _ _ hb6⟩
      have st7 := st6.ext e7
      have rR7 := rR6.ext e7
      have hv7 := hv6.ext e7
      have e07 := e06.trans e7
      have T7 := T6.ext s7
      generalize upd H6 u (.tup [V.ref p2, V.ref a2, V.ref b]) = H7 at s7 sn st7 rR7 hv7 e07 T7 ⊢
      obtain ⟨xs, x1, x2, x3⟩ := st7.snoc sn
      have hsz : (ss ++ ls).length ≤ 600 := by rw [List.length_append, mid.ll]; omega
      refine ⟨L, xs, _, rfl, rfl, x1, by rw [x2]; exact small1000 (by omega), ?_⟩
      have rR8 := rR7.put x1 nLR.symm (.lst (xs ++ [V.ref u]))
      have hv8 := hv7.nl (NL.put x1 (.lst (xs ++ [V.ref u])))
      have e08 : ExtN H (upd H7 L (.lst (xs ++ [V.ref u]))) := fun c oo e n => by rw [upd_ne (nbL _ _ e)]; exact e07 _ _ e n
      have T8 : Tabs T (upd H7 L (.lst (xs ++ [V.ref u]))) := Tabs.keepL T7 fun c oo e n => by rw [upd_ne (ne_of e x1 (n _))]; exact e
      generalize upd H7 L (.lst (xs ++ [V.ref u])) = H8 at x3 rR8 hv8 e08 T8 ⊢
      -- its result
      obtain ⟨ys, y1, y2, y3⟩ := rR8.snoc hv8
      refine ⟨_, rfl, .inl ⟨rfl, _, SqL.of y1⟩, _, rfl, R, ys, _, rfl, rfl, y1, by rw [y2, mid.lr]; exact small1000 (by omega), ?_⟩
      refine ⟨S', some o, ls ++ [(S', some o)], rs ++ [v], _, _, _, _, _, _, _, _, rfl, fun c oo e n => by rw [upd_ne (nbR _ _ e)]; exact e08 _ _ e n, Tabs.keepL T8 fun c oo e n => by rw [upd_ne (ne_of e y1 (n _))]; exact e, mid.step ho he, ?_, ?_, y3⟩
      · rw [← List.append_assoc, List.getLast?_append]
        rfl
      · rw [← List.append_assoc]
        exact x3.put y1 nLR _
    rintro σ H4 ⟨S, q, ls, rs, v2, v3, v5, v6, v7, v8, v9, v10, rfl, e4, T4, mid, hl, stL, rR⟩
    rw [hbl, hlen] at mid
    exact ⟨_, rfl, _, rfl, by show 2 ≤ sizeLine; decide, fun t ht => k ls rs mid.all H4 L R e4 T4 stL rR nL nR nLR t ht⟩
end
end Sl

set_option Elab.async false
set_option linter.all false
set_option maxRecDepth 100000
set_option maxHeartbeats 4000000
namespace Sl
open PySem PySem.Spec L2 OwnR LamX
/-! ### what a live road holds -/
def lvF (sl ul : Addr) (ib : Bool) (ks ku : Addr) : List (Str × V) := [("_states", .ref sl), ("_undone", .ref ul), ("_in_block", .bl ib), ("_kept_states", .ref ks), ("_kept_undone", .ref ku)]
theorem nsu_ : ¬ ("_states" : Str) = "_undone" := by decide +kernel
theorem nsb_ : ¬ ("_states" : Str) = "_in_block" := by decide +kernel
theorem nsk_ : ¬ ("_states" : Str) = "_kept_states" := by decide +kernel
theorem nsl_ : ¬ ("_states" : Str) = "_kept_undone" := by decide +kernel
theorem nub_ : ¬ ("_undone" : Str) = "_in_block" := by decide +kernel
theorem nuk_ : ¬ ("_undone" : Str) = "_kept_states" := by decide +kernel
theorem nul_ : ¬ ("_undone" : Str) = "_kept_undone" := by decide +kernel
theorem nbk_ : ¬ ("_in_block" : Str) = "_kept_states" := by decide +kernel
theorem nbl_ : ¬ ("_in_block" : Str) = "_kept_undone" := by decide +kernel
theorem nkl_ : ¬ ("_kept_states" : Str) = "_kept_undone" := by decide +kernel
theorem putF_ne {f g : Str} {v x : V} {r : List (Str × V)} (h : ¬ g = f) : putF f v ((g, x) :: r) = (g, x) :: putF f v r := by
  show (if g = f then _ else _) = _
  rw [if_neg h]
theorem putF_eq {f : Str} {v x : V} {r : List (Str × V)} : putF f v ((f, x) :: r) = (f, v) :: r := by
  show (if f = f then _ else _) = _
  rw [if_pos rfl]
theorem lk_eq {f : Str} {v : V} {r : List (Str × V)} : List.lookup f ((f, v) :: r) = some v := by rw [List.lookup_cons]; simp
theorem lk_ne {f g : Str} {v : V} {r : List (Str × V)} (h : ¬ g = f) : List.lookup f ((g, v) :: r) = List.lookup f r := by
  rw [List.lookup_cons]
  have : (f == g) = false := by simpa using fun e => h (Eq.symm e)
  rw [this]
theorem lv_s (sl ul ks ku : Addr) (ib : Bool) : (lvF sl ul ib ks ku).lookup ("_states" : Str) = some (.ref sl) := by unfold lvF; rw [lk_eq]
theorem lv_u (sl ul ks ku : Addr) (ib : Bool) : (lvF sl ul ib ks ku).lookup ("_undone" : Str) = some (.ref ul) := by unfold lvF; rw [lk_ne nsu_, lk_eq]
theorem lv_b (sl ul ks ku : Addr) (ib : Bool) : (lvF sl ul ib ks ku).lookup ("_in_block" : Str) = some (.bl ib) := by unfold lvF; rw [lk_ne nsb_, lk_ne nub_, lk_eq]
theorem lv_k (sl ul ks ku : Addr) (ib : Bool) : (lvF sl ul ib ks ku).lookup ("_kept_states" : Str) = some (.ref ks) := by unfold lvF; rw [lk_ne nsk_, lk_ne nuk_, lk_ne nbk_, lk_eq]
theorem lv_l (sl ul ks ku : Addr) (ib : Bool) : (lvF sl ul ib ks ku).lookup ("_kept_undone" : Str) = some (.ref ku) := by unfold lvF; rw [lk_ne nsl_, lk_ne nul_, lk_ne nbl_, lk_ne nkl_, lk_eq]
theorem lv_no (sl ul ks ku : Addr) (ib : Bool) {m : Str} (h0 : ¬ ("_states" : Str) = m) (h1 : ¬ ("_undone" : Str) = m) (h2 : ¬ ("_in_block" : Str) = m) (h3 : ¬ ("_kept_states" : Str) = m) (h4 : ¬ ("_kept_undone" : Str) = m) : (lvF sl ul ib ks ku).lookup m = none := by
  unfold lvF
  rw [lk_ne h0, lk_ne h1, lk_ne h2, lk_ne h3, lk_ne h4]
  rfl
theorem lvp2 (sl ul ks ku : Addr) (ib : Bool) : putF "_undone" (.ref ul) ([("_states", V.ref sl)] : List (Str × V)) = ([("_states", V.ref sl), ("_undone", .ref ul)] : List (Str × V)) := by rw [putF_ne nsu_]; rfl
theorem lvp3 (sl ul ks ku : Addr) (ib : Bool) : putF "_in_block" (.bl ib) ([("_states", V.ref sl), ("_undone", .ref ul)] : List (Str × V)) = ([("_states", V.ref sl), ("_undone", .ref ul), ("_in_block", .bl ib)] : List (Str × V)) := by rw [putF_ne nsb_, putF_ne nub_]; rfl
theorem lvp4 (sl ul ks ku : Addr) (ib : Bool) : putF "_kept_states" (.ref ks) ([("_states", V.ref sl), ("_undone", .ref ul), ("_in_block", .bl ib)] : List (Str × V)) = ([("_states", V.ref sl), ("_undone", .ref ul), ("_in_block", .bl ib), ("_kept_states", .ref ks)] : List (Str × V)) := by rw [putF_ne nsk_, putF_ne nuk_, putF_ne nbk_]; rfl
theorem lvp5 (sl ul ks ku : Addr) (ib : Bool) : putF "_kept_undone" (.ref ku) ([("_states", V.ref sl), ("_undone", .ref ul), ("_in_block", .bl ib), ("_kept_states", .ref ks)] : List (Str × V)) = ([("_states", V.ref sl), ("_undone", .ref ul), ("_in_block", .bl ib), ("_kept_states", .ref ks), ("_kept_undone", .ref ku)] : List (Str × V)) := by rw [putF_ne nsl_, putF_ne nul_, putF_ne nbl_, putF_ne nkl_]; rfl
theorem lvput_s (sl ul ks ku a : Addr) (ib : Bool) : putF "_states" (.ref a) (lvF sl ul ib ks ku) = lvF a ul ib ks ku := by unfold lvF; rw [putF_eq]
theorem lvput_u (sl ul ks ku a : Addr) (ib : Bool) : putF "_undone" (.ref a) (lvF sl ul ib ks ku) = lvF sl a ib ks ku := by unfold lvF; rw [putF_ne nsu_, putF_eq]
/-- all but what stands at p -/
def mask (p : Addr) (H : Hp) : Hp := fun b => if b = p then none else H b
theorem mask_ne {p b : Addr} {H : Hp} (h : b ≠ p) : mask p H b = H b := by unfold mask; rw [if_neg h]
theorem mask_some {p b : Addr} {H : Hp} {o : HO} (h : mask p H b = some o) : b ≠ p ∧ H b = some o := by
  unfold mask at h
  by_cases e : b = p
  · rw [if_pos e] at h
    cases h
  · rw [if_neg e] at h
    exact ⟨e, h⟩
theorem mask_upd {p : Addr} {H : Hp} (o : HO) : ExtN (mask p H) (upd H p o) := fun b u e _ => by
  obtain ⟨n, e⟩ := mask_some e
  rw [upd_ne n]
  exact e
theorem mask_ext {p : Addr} {H H' : Hp} (e : ExtN H H') : ExtN (mask p H) (mask p H') := fun b u h n => by
  obtain ⟨ne, h⟩ := mask_some h
  rw [mask_ne ne]
  exact e _ _ h n
/-- all but p stays, but for tables -/
structure KpP (p : Addr) (H H' : Hp) : Prop where
  ext : ExtN (mask p H) H'
theorem KpP.same {p : Addr} {H H' : Hp} (e : Same H H') : KpP p H H' := ⟨fun b o h _ => e _ _ (mask_some h).2⟩
theorem KpP.of {p : Addr} {H H' : Hp} (e : ExtN H H') : KpP p H H' := ⟨fun b o h n => e _ _ (mask_some h).2 n⟩
theorem KpP.trans {p : Addr} {H H1 H2 : Hp} (a : KpP p H H1) (b : KpP p H1 H2) : KpP p H H2 := ⟨fun c o h n => b.ext _ _ (by rw [mask_ne (mask_some h).1]; exact a.ext _ _ h n) n⟩
theorem KpP.upd {p : Addr} {H : Hp} {C dx : Addr} {fs : List (Str × V)} (hp : H p = some (.ins C dx fs)) (o : HO) : KpP p H (upd H p o) := ⟨mask_upd o⟩
theorem KpP.get {p b : Addr} {H H' : Hp} (k : KpP p H H') {o : HO} (h : H b = some o) (n : b ≠ p) (nt : ∀ ps, o ≠ .tbl ps) : H' b = some o := k.ext _ _ (by rw [mask_ne n]; exact h) nt
theorem Tabs.updI {T : List (Addr × Str)} {H : Hp} {p C dx : Addr} {fs : List (Str × V)} (t : Tabs T H) (hp : H p = some (.ins C dx fs)) (o : HO) : Tabs T (L2.upd H p o) := Tabs.keepP t hp fun b u e n => by rw [upd_ne n]; exact e
/-! ### a live road -/
theorem rf_ne_lv {CR CL dx dy t : Addr} {u : Str} {sl ul ks ku : Addr} {ib : Bool} : HO.ins CR dx (rf t u) ≠ HO.ins CL dy (lvF sl ul ib ks ku) := fun z => by
  have e := congrArg List.length (HO.ins.inj z).2.2
  have e1 : (rf t u).length = 2 := rfl
  have e2 : (lvF sl ul ib ks ku).length = 5 := rfl
  rw [e1, e2] at e
  cases e
theorem KpP.tup {x : Addr} {H H' : Hp} {CL dx : Addr} {fs : List (Str × V)} (hx : H x = some (.ins CL dx fs)) (k : KpP x H H') {a : Addr} {xs : List V} (h : H a = some (.tup xs)) : H' a = some (.tup xs) := k.get h (ne_of h hx (by intro z; cases z)) (fun _ z => nomatch z)
theorem KpP.lst {x : Addr} {H H' : Hp} {CL dx : Addr} {fs : List (Str × V)} (hx : H x = some (.ins CL dx fs)) (k : KpP x H H') {a : Addr} {xs : List V} (h : H a = some (.lst xs)) : H' a = some (.lst xs) := k.get h (ne_of h hx (by intro z; cases z)) (fun _ z => nomatch z)
theorem KpP.dK {x : Addr} {H H' : Hp} {CL dx : Addr} {fs : List (Str × V)} (hx : H x = some (.ins CL dx fs)) (k : KpP x H H') {a : Addr} {kv : List (Key × V)} (h : H a = some (.dK kv)) : H' a = some (.dK kv) := k.get h (ne_of h hx (by intro z; cases z)) (fun _ z => nomatch z)
section
variable {H H' : Hp} {x CL dx sl ul ks ku : Addr} {ib : Bool}
theorem RoadAt.kp {C p : Addr} {secs : List Sec} (h : RoadAt C H p secs) (hx : H x = some (.ins CL dx (lvF sl ul ib ks ku))) (k : KpP x H H') : RoadAt C H' p secs := by
  obtain ⟨d, t, u, h1, ⟨ts, a1, a2, a3⟩, h3⟩ := h
  exact ⟨d, t, u, k.get h1 (ne_of h1 hx rf_ne_lv) (fun _ z => nomatch z), ⟨ts, k.tup hx a1, a2, fun i t s e1 e2 => k.tup hx (a3 i t s e1 e2)⟩, h3⟩
theorem CarsAt.kp {a : Addr} {cars : List Car} {fs : List (Str × V)} (h : CarsAt H a cars) (hx : H x = some (.ins CL dx fs)) (k : KpP x H H') : CarsAt H' a cars := by
  obtain ⟨ts, a1, a2, a3⟩ := h
  exact ⟨ts, k.tup hx a1, a2, fun i t s e1 e2 => k.tup hx (a3 i t s e1 e2)⟩
theorem OpVAt.kp {v : V} {o : Option Op} {fs : List (Str × V)} (h : OpVAt H v o) (hx : H x = some (.ins CL dx fs)) (k : KpP x H H') : OpVAt H' v o := by
  cases o with
  | none => exact h
  | some o =>
    obtain ⟨b, h1, h2⟩ := h
    exact ⟨b, h1, k.tup hx h2⟩
theorem StAt.kp {CR t : Addr} {s : LS} (h : StAt CR H t s) (hx : H x = some (.ins CL dx (lvF sl ul ib ks ku))) (k : KpP x H H') : StAt CR H' t s := by
  obtain ⟨p, a, o, h1, h2, h3, h4⟩ := h
  exact ⟨p, a, o, k.tup hx h1, h2.kp hx k, h3.kp hx k, h4.kp hx k⟩
theorem StsAt.kp {CR l : Addr} {ss : List LS} (h : StsAt CR H l ss) (hx : H x = some (.ins CL dx (lvF sl ul ib ks ku))) (k : KpP x H H') : StsAt CR H' l ss := by
  obtain ⟨ts, h1, h2, h3⟩ := h
  exact ⟨ts, k.lst hx h1, h2, fun i t s e1 e2 => (h3 i t s e1 e2).kp hx k⟩
theorem PairsAt.kp {d : Addr} {ns : List Str} {g : Str → Int × Int} {fs : List (Str × V)} (h : PairsAt H d ns g) (hx : H x = some (.ins CL dx fs)) (k : KpP x H H') : PairsAt H' d ns g := by
  obtain ⟨ts, h1, h2, h3⟩ := h
  exact ⟨ts, k.dK hx h1, h2, fun i t m e1 e2 => k.tup hx (h3 i t m e1 e2)⟩
theorem RsAt.kp {v : V} {r : Rs} {fs : List (Str × V)} (h : RsAt H v r) (hx : H x = some (.ins CL dx fs)) (k : KpP x H H') : RsAt H' v r := by
  cases r with
  | tick i => exact h
  | chg ns g =>
    obtain ⟨d, h1, h2⟩ := h
    exact ⟨d, h1, h2.kp hx k⟩
theorem RssAt.kp {l : Addr} {rs : List Rs} {fs : List (Str × V)} (h : RssAt H l rs) (hx : H x = some (.ins CL dx fs)) (k : KpP x H H') : RssAt H' l rs := by
  obtain ⟨vs, h1, h2, h3⟩ := h
  exact ⟨vs, k.lst hx h1, h2, fun i v r e1 e2 => (h3 i v r e1 e2).kp hx k⟩
end
def LvAt (CL CR : Addr) (H : Hp) (x dx : Addr) (ss un : List LS) : Prop := ∃ sl ul ks ku : Addr, H x = some (.ins CL dx (lvF sl ul false ks ku)) ∧ StsAt CR H sl ss ∧ StsAt CR H ul un
theorem LvAt.ext {CL CR : Addr} {H H' : Hp} {x dx : Addr} {ss un : List LS} (h : LvAt CL CR H x dx ss un) (e : ExtN H H') : LvAt CL CR H' x dx ss un := by
  obtain ⟨sl, ul, ks, ku, h1, h2, h3⟩ := h
  exact ⟨sl, ul, ks, ku, e _ _ h1 (fun _ z => nomatch z), h2.ext e, h3.ext e⟩
/-- the object's states are replaced -/
theorem LvAt.put {CL CR : Addr} {H : Hp} {x dx sl ul ks ku s2 u2 : Addr} {ss un : List LS} (hx : H x = some (.ins CL dx (lvF sl ul false ks ku))) (h2 : StsAt CR H s2 ss) (h3 : StsAt CR H u2 un) : LvAt CL CR (upd H x (.ins CL dx (lvF s2 u2 false ks ku))) x dx ss un :=
  ⟨s2, u2, ks, ku, upd_same, h2.kp hx (KpP.upd hx _), h3.kp hx (KpP.upd hx _)⟩
/-- what the program asks of the class -/
structure LivT (K : PySem.W.Frag) (CL : Addr) : Prop where
  cl : Cls K CL
  ns : NoAttr K CL "_states"
  nu : NoAttr K CL "_undone"
  nb : NoAttr K CL "_in_block"
  nk : NoAttr K CL "_kept_states"
  nl : NoAttr K CL "_kept_undone"
section
variable {P : Program} {w : World} {K : PySem.W.Frag} {mg : Str → Option Value} {base : Heap}
/-! ### __init__ -/
def spLInit (CL CR : Addr) : Sp := fun vs H Q _ => ∃ (H0 : Hp) (x dx p : Addr) (secs : List Sec), vs = [.ref x, .ref p] ∧ H x = some (.ins CL dx []) ∧ Same H0 H ∧ H0 x = none ∧ RoadAt CR H0 p secs ∧ SecsOk secs ∧
  ∀ H', Same H0 H' → LvAt CL CR H' x dx [((secs, []), none)] [] → Q .non H'
theorem scLInit : FnScope ["self", "road"] ["self", "road"] (defScope sLiveRoadInit) := ⟨rfl, rfl, rfl, by decide +kernel, rfl, by decide +kernel, by decide +kernel⟩
theorem ok_lInit {f CL CR : Addr} {fd : FuncData} (F : Fun K "__init__" "LiveRoad.__init__" sLiveRoadInit f fd) (LT : LivT K CL) : FnOk P w K mg base CX0 1 f fd ["self", "road"] (spLInit CL CR) := by
  refine F.ok scLInit (fun vs H Q E h => ?_) (fun cdv A outer s H vs Q E hr h => ?_)
  · obtain ⟨H0, x, dx, p, secs, rfl, _⟩ := h
    rfl
  · obtain ⟨H0, x, dx, p, secs, rfl, hx, s0, x0, rd, SO, k⟩ := h
    have nd := scLInit.nd
    refine ⟨_, pss_cons (ps_fld (pv 0) (pe_lst (pa_cons (pe_tup (pa_cons (pv 1) (pa_cons (pe_tup pa_nil) (pa_cons pe_non pa_nil)))) pa_nil)) rfl)
      (pss_cons (ps_fld (pv 0) (pe_lst pa_nil) rfl) (pss_cons (ps_fld (pv 0) pe_bl rfl) (pss_cons (ps_fld (pv 0) (pe_fld (pv 0) rfl) rfl) (pss_one (ps_fld (pv 0) (pe_fld (pv 0) rfl) rfl))))), ?_⟩
    refine ⟨_, rfl, Nat.zero_le _, fun c hc => ⟨by show 3 ≤ sizeLine; decide, fun t ht => ⟨by show 1 ≤ sizeLine; decide, fun sl hsl => ?_⟩⟩⟩
    have a1 := sameNew hc (.tup [])
    have a2 := sameNew ht (.tup [V.ref p, V.ref c, .non])
    have a3 := sameNew hsl (.lst [V.ref t])
    have hx3 := a3 _ _ (a2 _ _ (a1 _ _ hx))
    have hsl3 : upd (upd (upd H c (.tup [])) t (.tup [V.ref p, V.ref c, .non])) sl (.lst [V.ref t]) sl = some (.lst [V.ref t]) := upd_same
    have ht3 := a3 _ _ (upd_same (H := upd H c (.tup [])) (a := t) (o := .tup [V.ref p, V.ref c, .non]))
    have hc3 := a3 _ _ (a2 _ _ (upd_same (H := H) (a := c) (o := .tup [])))
    have s3 : Same H0 (upd (upd (upd H c (.tup [])) t (.tup [V.ref p, V.ref c, .non])) sl (.lst [V.ref t])) := s0.trans (a1.trans (a2.trans a3))
    generalize upd (upd (upd H c (.tup [])) t (.tup [V.ref p, V.ref c, .non])) sl (.lst [V.ref t]) = H3 at hx3 hsl3 ht3 hc3 s3 ⊢
    clear a1 a2 a3 hc ht hsl hx s0
    have nx : ∀ {b : Addr} {o : HO}, H0 b = some o → b ≠ x := fun e => ne_of_none e x0
    have nsx : sl ≠ x := ne_of hsl3 hx3 (by intro z; cases z)
    have ntx : t ≠ x := ne_of ht3 hx3 (by intro z; cases z)
    have ncx : c ≠ x := ne_of hc3 hx3 (by intro z; cases z)
    refine ⟨_, rfl, x, CL, dx, _, rfl, hx3, LT.cl, LT.ns, by show 0 < 1000; decide, ?_⟩
    have hx4 : upd H3 x (.ins CL dx [("_states", V.ref sl)]) x = some (.ins CL dx [("_states", V.ref sl)]) := upd_same
    have k4 : ∀ b o, H3 b = some o → b ≠ x → upd H3 x (.ins CL dx [("_states", V.ref sl)]) b = some o := fun b o e n => by rw [upd_ne n]; exact e
    show Ends.nx _ _ (upd H3 x (.ins CL dx [("_states", V.ref sl)]))
    generalize upd H3 x (.ins CL dx [("_states", V.ref sl)]) = H4 at hx4 k4 ⊢
    refine ⟨Nat.zero_le _, fun ul hul => ?_⟩
    have a5 := sameNew hul (.lst [])
    have hx5 := a5 _ _ hx4
    have hul5 : upd H4 ul (.lst []) ul = some (.lst []) := upd_same
    have nux : ul ≠ x := ne_of hul5 hx5 (by intro z; cases z)
    have k5 : ∀ b o, H3 b = some o → b ≠ x → upd H4 ul (.lst []) b = some o := fun b o e n => a5 _ _ (k4 b o e n)
    generalize upd H4 ul (.lst []) = H5 at a5 hx5 hul5 k5 ⊢
    refine ⟨_, rfl, x, CL, dx, _, rfl, hx5, LT.cl, LT.nu, by show 1 < 1000; decide, ?_⟩
    rw [lvp2 sl ul sl ul false]
    refine ⟨_, rfl, x, CL, dx, _, rfl, upd_same, LT.cl, LT.nb, by show 2 < 1000; decide, ?_⟩
    rw [lvp3 sl ul sl ul false]
    refine ⟨_, rfl, x, CL, dx, _, .ref sl, rfl, upd_same, LT.cl, LT.ns, lk_eq, _, rfl, x, CL, dx, _, rfl, upd_same, LT.cl, LT.nk, by show 3 < 1000; decide, ?_⟩
    rw [lvp4 sl ul sl ul false]
    refine ⟨_, rfl, x, CL, dx, _, .ref ul, rfl, upd_same, LT.cl, LT.nu, by rw [lk_ne nsu_, lk_eq], _, rfl, x, CL, dx, _, rfl, upd_same, LT.cl, LT.nl, by show 4 < 1000; decide, ?_⟩
    rw [lvp5 sl ul sl ul false]
    have k9 : ∀ (o1 o2 o3 o4 : HO) (b : Addr) (o : HO), H3 b = some o → b ≠ x → upd (upd (upd (upd H5 x o1) x o2) x o3) x o4 b = some o := fun o1 o2 o3 o4 b o e n => by rw [upd_ne n, upd_ne n, upd_ne n, upd_ne n]; exact k5 b o e n
    have hu9 : ∀ (o1 o2 o3 o4 : HO), upd (upd (upd (upd H5 x o1) x o2) x o3) x o4 ul = some (.lst []) := fun o1 o2 o3 o4 => by rw [upd_ne nux, upd_ne nux, upd_ne nux, upd_ne nux]; exact hul5
    refine k _ (fun b o e => k9 _ _ _ _ b o (s3 _ _ e) (nx e)) ⟨sl, ul, sl, ul, upd_same, ⟨[t], k9 _ _ _ _ _ _ hsl3 nsx, rfl, fun i u v e1 e2 => ?_⟩, ⟨[], hu9 _ _ _ _, rfl, fun _ _ _ z => nomatch z⟩⟩
    match i, e1, e2 with
    | 0, e1, e2 =>
      cases e1
      cases e2
      exact ⟨p, c, .non, k9 _ _ _ _ _ _ ht3 ntx, rd.ext (ExtN.same fun b o e => k9 _ _ _ _ b o (s3 _ _ e) (nx e)), ⟨[], k9 _ _ _ _ _ _ hc3 ncx, rfl, fun _ _ _ z => nomatch z⟩, rfl⟩
end
end Sl

set_option Elab.async false
set_option linter.all false
set_option maxRecDepth 100000
set_option maxHeartbeats 4000000
namespace Sl
open PySem PySem.Spec L2 OwnR LamX
section
variable {P : Program} {w : World} {K : PySem.W.Frag} {mg : Str → Option Value} {base : Heap}
/-! ### apply -/
/-- the list of undone ones that x holds was none of the lists that stood there -/
def UnN (CL : Addr) (H H' : Hp) (x : Addr) : Prop := ∀ (dy : Addr) (fs : List (Str × V)), H' x = some (.ins CL dy fs) → ∀ u, fs.lookup ("_undone" : Str) = some (.ref u) → ∀ xs, H u ≠ some (.lst xs)
theorem UnN.same {CL x : Addr} {H H1 H' : Hp} (h : UnN CL H1 H' x) (s : Same H H1) : UnN CL H H' x := fun dy fs e u hu xs z => h dy fs e u hu xs (s _ _ z)
def ApplyR (CL CR CNm CMy CU CO : Addr) (T : List (Addr × Str)) (H : Hp) (x dx : Addr) (ss un : List LS) (bs : List Addr) (Q : VK) (E : XK) : Prop :=
  ∃ m : Nat, (∀ (i : Nat) (b : Addr), i < m → bs[i]? = some b → ∃ nm rest, H b = some (.tup (.str nm :: rest)) ∧ (nm, rest.length) ∈ opN ∧ rest.length ≤ 3) ∧
    ((∃ (b : Addr) (nm : Str) (k : Nat) (rest : List V), bs[m]? = some b ∧ H b = some (.tup (.str nm :: rest)) ∧ (nm, k) ∈ opN ∧ rest.length ≠ k ∧ rest.length ≤ 10 ∧ FldE CO "index" (.int ((m : Nat) : Int)) H E) ∨
     (m = bs.length ∧ ∃ (S : St2) (q : Option Op) (ops : List Op), ss.getLast? = some (S, q) ∧ StOk S ∧ bs.length = ops.length ∧ (∀ (i : Nat) (b : Addr) (o : Op), bs[i]? = some b → ops[i]? = some o → H b = some (.tup o.vs)) ∧ OpsOk S ops ∧ Tabs T H ∧ ss.length ≤ 500 ∧
      (∀ e, runO S ops = .inl e → ∀ H' cls d, ExtN H H' → Tabs T H' → ErAt CNm CMy CU H' cls d e → E cls d H') ∧
      (∀ ls rs, runO S ops = .inr (ls, rs) → ∀ H' r2, KpP x H H' → Tabs T H' → LvAt CL CR H' x dx (ss ++ ls) (if ops = [] then un else []) → (ops ≠ [] → UnN CL H H' x) → RssAt H' r2 rs → Q (.ref r2) H')))
def spApply0 (CL CR CNm CMy CU CO : Addr) (T : List (Addr × Str)) : Sp := fun vs H Q E => ∃ (x dx ot : Addr) (ss un : List LS) (bs : List Addr), vs = [.ref x, .ref ot] ∧ H ot = some (.tup (bs.map V.ref)) ∧ bs.length ≤ 100 ∧ LvAt CL CR H x dx ss un ∧ ApplyR CL CR CNm CMy CU CO T H x dx ss un bs Q E
abbrev spApply (CL CR CNm CMy CU CO : Addr) (T : List (Addr × Str)) : Sp := fun vs H Q E => ∃ ws rest, vs = ws ++ rest ∧ ws.length = (["self"] : List Str).length ∧ rest.length ≤ sizeLine ∧ ∀ p, H p = Option.none → spApply0 CL CR CNm CMy CU CO T (ws ++ [V.ref p]) (upd H p (.tup rest)) Q E
def nApply : List Str := ["self", "operations", "states", "results"]
theorem scApply : FnScope nApply ["self", "operations"] (defScope sLiveRoadApply) := ⟨rfl, rfl, rfl, by decide +kernel, rfl, by decide +kernel, by decide +kernel⟩
theorem ok_apply {f fE CL CR CNm CMy CU CO : Addr} {fd dE : FuncData} {T : List (Addr × Str)} (F : Fun K "apply" "LiveRoad.apply" sLiveRoadApply f fd) (LT : LivT K CL)
    (BE : Fb K mg "_execute" sExecute ["states", "operations"] fE dE) (GE : FnOk P w K mg base (L2.CX P w) 9 fE dE ["states", "operations"] (spExec CR CNm CMy CU CO T)) : FnR P w K mg base (L2.CX P w) 10 f (spApply CL CR CNm CMy CU CO T) := by
  obtain ⟨oc, od, kV, doc, pm, an, cdv, ct, osl, rfl, lk, hcd⟩ := F.ex
  refine StX.fn_star lk hcd scApply StX.cxUp (StX.bind_star1 (p1 := "self") (pv := "operations") (B := fun xs => bindArgs (PySem.W.fnOf "apply" "LiveRoad.apply" (defArgs sLiveRoadApply) (defBody sLiveRoadApply) (defScope sLiveRoadApply) .none kV doc pm an cdv ct) ⟨xs, []⟩) (fun _ => rfl) (fun _ _ _ => rfl)) fun A outer s H vs Q E hr h => ?_
  obtain ⟨x, dx, ot, ss, un, bs, rfl, hot, h100, ⟨sl, ul, ks, ku, hx, hsl, hul⟩, m, good, h⟩ := h
  have nd := scApply.nd
  have hr9 : Room 9 (A.deeper (PyProof.Rows.envOfC "LiveRoad.apply" (defScope sLiveRoadApply) s.heap.objs.size f cdv)) := hr.mono (by decide)
  refine ⟨_, pss_cons (ps_asg (pe_call GE hr9 (by rfl) BE.at_ BE.fn.kp BE.bd .nil (passes_call (takes_of rfl rfl rfl rfl) fun _ _ _ _ h => h) (pa_cons (pe_fld (pv 0) rfl) (pa_cons (pv 1) pa_nil))) (pg_tup rfl (pgs_cons (pg_name (i := 2) nd rfl (.inl rfl)) (pgs_cons (pg_name (i := 3) nd rfl (.inl rfl)) pgs_nil))))
    (pss_cons (ps_if (pt_truth (pv 1) (fun _ => rfl)) (pss_cons (ps_fld (pv 0) (pv 2) rfl) (pss_one (ps_fld (pv 0) (pe_lst pa_nil) rfl))) pss_nil)
    (pss_one (ps_ret (pv 3)))), ?_⟩
  refine ⟨_, rfl, x, CL, dx, _, _, rfl, hx, LT.cl, LT.ns, lv_s _ _ _ _ _, _, rfl, sl, ot, bs, rfl, hot, h100, m, good, ?_⟩
  rcases h with h | ⟨em, S, q, ops, hlast, hS, hlen, hops, hok, hT, h500, kE, k⟩
  · exact .inl h
  refine .inr ⟨em, ss, S, q, ops, hsl, hlast, hS, hlen, hops, hok, hT, h500, kE, fun ls rs hrun H1 s2 r2 e1 T1 st1 rr1 ns nr nsr t ht => ?_⟩
  have s2' := sameNew ht (.tup [V.ref s2, V.ref r2])
  refine ⟨t, _, rfl, SqT.of upd_same, rfl, _, _, rfl, _, _, rfl, rfl, ?_⟩
  have e2 := e1.trans (ExtN.same s2')
  have T2 := T1.ext s2'
  have st2 := st1.ext (ExtN.same s2')
  have rr2 := rr1.ext (ExtN.same s2')
  generalize upd H1 t (.tup [V.ref s2, V.ref r2]) = H2 at e2 T2 st2 rr2 ⊢
  have hx2 := e2 _ _ hx (fun _ z => nomatch z)
  have hul2 := hul.ext e2
  refine ⟨_, rfl, _, .inr (.inl ⟨_, SqT.of (ExtN.tup e2 hot), rfl⟩), ?_⟩
  by_cases hb : bs = []
  · have ho : ops = [] := List.length_eq_zero_iff.mp (by rw [← hlen, hb]; rfl)
    have hl : ls = [] := by
      rw [ho] at hrun
      exact ((Prod.mk.inj (Sum.inr.inj hrun)).1).symm
    rw [hb]
    refine iteF ⟨_, rfl, k ls rs hrun H2 r2 (KpP.of e2) T2 ?_ (fun z => absurd ho z) rr2⟩
    rw [if_pos ho, hl, List.append_nil]
    exact ⟨sl, ul, ks, ku, hx2, hsl.ext e2, hul2⟩
  · have ho : ops ≠ [] := fun z => hb (List.length_eq_zero_iff.mp (by rw [hlen, z]; rfl))
    rw [show (!(bs.map V.ref).isEmpty) = true by cases bs with | nil => exact absurd rfl hb | cons _ _ => rfl]
    refine iteT ⟨_, rfl, _, rfl, x, CL, dx, _, rfl, hx2, LT.cl, LT.ns, by show 5 < 1000; decide, ?_⟩
    rw [lvput_s]
    have kp3 := KpP.upd hx2 (.ins CL dx (lvF s2 ul false ks ku))
    have hx3 : upd H2 x (.ins CL dx (lvF s2 ul false ks ku)) x = some (.ins CL dx (lvF s2 ul false ks ku)) := upd_same
    have st3 := st2.kp hx2 kp3
    have rr3 := rr2.kp hx2 kp3
    have T3 := Tabs.updI T2 hx2 (.ins CL dx (lvF s2 ul false ks ku))
    show Ends.nx _ _ (upd H2 x (.ins CL dx (lvF s2 ul false ks ku)))
    generalize upd H2 x (.ins CL dx (lvF s2 ul false ks ku)) = H3 at kp3 hx3 st3 rr3 T3 ⊢
    refine ⟨Nat.zero_le _, fun z hz => ?_⟩
    have nz : ∀ xs, H z ≠ some (.lst xs) := fun xs e => by
      have := KpP.lst hx ((KpP.of e2).trans kp3) e
      rw [hz] at this
      cases this
    have s4 := sameNew hz (.lst [])
    have hx4 := s4 _ _ hx3
    have st4 := st3.ext (ExtN.same s4)
    have rr4 := rr3.ext (ExtN.same s4)
    have T4 := T3.ext s4
    have hz4 : StsAt CR (upd H3 z (.lst [])) z [] := ⟨[], upd_same, rfl, fun _ _ _ w => nomatch w⟩
    generalize upd H3 z (.lst []) = H4 at s4 hx4 st4 rr4 T4 hz4 ⊢
    refine ⟨_, rfl, x, CL, dx, _, rfl, hx4, LT.cl, LT.nu, by show 5 < 1000; decide, ?_⟩
    rw [lvput_u]
    have kp5 := KpP.upd hx4 (.ins CL dx (lvF s2 z false ks ku))
    refine ⟨_, rfl, k ls rs hrun _ r2 ((KpP.of e2).trans (kp3.trans ((KpP.same s4).trans kp5))) (Tabs.updI T4 hx4 _) ?_ (fun _ dy fs ex u hu xs hxs => ?_) (rr4.kp hx4 kp5)⟩
    · rw [if_neg ho]
      exact LvAt.put hx4 st4 hz4
    · rw [show upd H4 x (.ins CL dx (lvF s2 z false ks ku)) x = some (.ins CL dx (lvF s2 z false ks ku)) from upd_same] at ex
      have e3 := (HO.ins.inj (Option.some.inj ex)).2.2
      rw [← e3, lv_u] at hu
      cases hu
      exact nz xs hxs
/-! ### join, remove, set_kind -/
def AskR (CL CR CNm CMy CU : Addr) (T : List (Addr × Str)) (H : Hp) (x dx : Addr) (ss : List LS) (S : St2) (o : Op) (Q : VK) (E : XK) : Prop :=
  (∀ e, stepO S o = .inl e → ∀ H' cls d, ExtN H H' → Tabs T H' → ErAt CNm CMy CU H' cls d e → E cls d H') ∧
  (∀ S' r, stepO S o = .inr (S', r) → ∀ H' v, KpP x H H' → Tabs T H' → LvAt CL CR H' x dx (ss ++ [(S', some o)]) [] → UnN CL H H' x → RsAt H' v r → Q v H')
structure LvIn (CL CR : Addr) (T : List (Addr × Str)) (H : Hp) (x dx : Addr) (ss un : List LS) (S : St2) : Prop where
  lv : LvAt CL CR H x dx ss un
  last : ∃ q, ss.getLast? = some (S, q)
  ok : StOk S
  tb : Tabs T H
  few : ss.length ≤ 500
theorem ask_apply {CL CR CNm CMy CU CO : Addr} {T : List (Addr × Str)} {H : Hp} {x dx b : Addr} {ss un : List LS} {S : St2} {o : Op} {Q : VK} {E : XK} (I : LvIn CL CR T H x dx ss un S) (ok : OpOk S o) (hb : H b = some (.tup o.vs)) (h : AskR CL CR CNm CMy CU T H x dx ss S o Q E) {Q2 : VK} (hQ : ∀ (r2 : Addr) (vs : List V) (v : V) (H1 : Hp), H1 r2 = some (.lst vs) → vs[0]? = some v → Q v H1 → Q2 (.ref r2) H1) :
    spApply CL CR CNm CMy CU CO T [.ref x, .ref b] H Q2 E := by
  obtain ⟨q, hq⟩ := I.last
  refine ⟨[.ref x], [.ref b], rfl, rfl, by show 1 ≤ sizeLine; decide, fun ot hot => ?_⟩
  have s1 := sameNew hot (.tup [V.ref b])
  have e1 := ExtN.same s1
  have hb1 := s1 _ _ hb
  refine ⟨x, dx, ot, ss, un, [b], rfl, upd_same, by show 1 ≤ 100; decide, I.lv.ext e1, 1, fun i c hi hc => ?_, .inr ⟨rfl, S, q, [o], hq, I.ok, rfl, fun i c p hc hp => ?_, ⟨ok, fun _ _ _ => True.intro⟩, I.tb.ext s1, I.few, fun e he H' cls d e2 T2 hE => ?_, fun ls rs hr H' r2 k2 T2 lv un2 rr => ?_⟩⟩
  · match i, hc with
    | 0, hc =>
      cases hc
      obtain ⟨nm, rest, h1, h2, _, h4⟩ := o.shape
      exact ⟨nm, rest, by rw [← h1]; exact hb1, h2, h4⟩
  · match i, hc, hp with
    | 0, hc, hp =>
      cases hc
      cases hp
      exact hb1
  · cases hs : stepO S o with
    | inl e' =>
      have := runO_bad (r := []) hs
      rw [he] at this
      cases this
      exact h.1 e hs H' cls d (e1.trans e2) T2 hE
    | inr z =>
      obtain ⟨S', v⟩ := z
      have := runO_good hs (runO_nil S')
      rw [he] at this
      cases this
  · cases hs : stepO S o with
    | inl e' =>
      have := runO_bad (r := []) hs
      rw [hr] at this
      cases this
    | inr z =>
      obtain ⟨S', v⟩ := z
      have := runO_good hs (runO_nil S')
      rw [hr] at this
      cases this
      obtain ⟨vs, v1, v2, v3⟩ := rr
      obtain ⟨u, hu⟩ : ∃ u, vs[0]? = some u := ⟨_, List.getElem?_eq_getElem (by rw [v2]; exact Nat.zero_lt_one)⟩
      exact hQ r2 vs u H' v1 hu (h.2 S' v hs H' u ((KpP.same s1).trans k2) T2 (by rw [if_neg (by intro z; cases z)] at lv; exact lv) ((un2 (by intro z; cases z)).same s1) (v3 0 u v hu rfl))
/-- the methods of the operations -/
def spMJoin (CL CR CNm CMy CU : Addr) (T : List (Addr × Str)) : Sp := fun vs H Q E => ∃ (x dx : Addr) (ss un : List LS) (S : St2) (n : Str) (st pc : Nat), vs = [.ref x, .str n, .int ((st : Nat) : Int), .int ((pc : Nat) : Int)] ∧ LvIn CL CR T H x dx ss un S ∧ OpOk S (.join n st pc) ∧ AskR CL CR CNm CMy CU T H x dx ss S (.join n st pc) Q E
def spMRem (CL CR CNm CMy CU : Addr) (T : List (Addr × Str)) : Sp := fun vs H Q E => ∃ (x dx : Addr) (ss un : List LS) (S : St2) (n : Str), vs = [.ref x, .str n] ∧ LvIn CL CR T H x dx ss un S ∧ AskR CL CR CNm CMy CU T H x dx ss S (.rem n) Q E
def spMKind (CL CR CNm CMy CU : Addr) (T : List (Addr × Str)) : Sp := fun vs H Q E => ∃ (x dx : Addr) (ss un : List LS) (S : St2) (i : Nat) (b : Bool), vs = [.ref x, .int ((i : Nat) : Int), .str (kindS b)] ∧ LvIn CL CR T H x dx ss un S ∧ OpOk S (.kind i b) ∧ AskR CL CR CNm CMy CU T H x dx ss S (.kind i b) Q E
theorem LvIn.same {CL CR : Addr} {T : List (Addr × Str)} {H H' : Hp} {x dx : Addr} {ss un : List LS} {S : St2} (I : LvIn CL CR T H x dx ss un S) (s : Same H H') : LvIn CL CR T H' x dx ss un S := ⟨I.lv.ext (ExtN.same s), I.last, I.ok, I.tb.ext s, I.few⟩
theorem AskR.same {CL CR CNm CMy CU : Addr} {T : List (Addr × Str)} {H H' : Hp} {x dx : Addr} {ss : List LS} {S : St2} {o : Op} {Q : VK} {E : XK} (h : AskR CL CR CNm CMy CU T H x dx ss S o Q E) (s : Same H H') : AskR CL CR CNm CMy CU T H' x dx ss S o Q E :=
  ⟨fun e he H2 cls d e2 T2 hE => h.1 e he H2 cls d ((ExtN.same s).trans e2) T2 hE, fun S' r he H2 v k T2 lv un rs => h.2 S' r he H2 v ((KpP.same s).trans k) T2 lv (un.same s) rs⟩
theorem LvAt.ins {CL CR : Addr} {H : Hp} {x dx : Addr} {ss un : List LS} (h : LvAt CL CR H x dx ss un) : ∃ fs, H x = some (.ins CL dx fs) ∧ ∀ m : Str, ¬ ("_states" : Str) = m → ¬ ("_undone" : Str) = m → ¬ ("_in_block" : Str) = m → ¬ ("_kept_states" : Str) = m → ¬ ("_kept_undone" : Str) = m → fs.lookup m = none := by
  obtain ⟨sl, ul, ks, ku, h1, _⟩ := h
  exact ⟨_, h1, fun m a b c d e => lv_no _ _ _ _ _ a b c d e⟩
theorem scMJoin : FnScope ["self", "name", "start", "pace"] ["self", "name", "start", "pace"] (defScope sLiveRoadJoin) := ⟨rfl, rfl, rfl, by decide +kernel, rfl, by decide +kernel, by decide +kernel⟩
theorem scMRem : FnScope ["self", "name"] ["self", "name"] (defScope sLiveRoadRemove) := ⟨rfl, rfl, rfl, by decide +kernel, rfl, by decide +kernel, by decide +kernel⟩
theorem scMKind : FnScope ["self", "section", "kind"] ["self", "section", "kind"] (defScope sLiveRoadSetKind) := ⟨rfl, rfl, rfl, by decide +kernel, rfl, by decide +kernel, by decide +kernel⟩
theorem ok_mJoin {f fA CL CR CNm CMy CU CO : Addr} {fd : FuncData} {T : List (Addr × Str)} (F : Fun K "join" "LiveRoad.join" sLiveRoadJoin f fd) (LT : LivT K CL) (MA : Meth K CL "apply" fA) (GA : FnR P w K mg base (L2.CX P w) 10 fA (spApply CL CR CNm CMy CU CO T)) : FnOk P w K mg base (L2.CX P w) 11 f fd ["self", "name", "start", "pace"] (spMJoin CL CR CNm CMy CU T) := by
  refine F.okX scMJoin (fun vs H Q E h => ?_) (fun cdv A outer s H vs Q E hr h => ?_)
  · obtain ⟨x, dx, ss, un, S, n, st, pc, rfl, _⟩ := h
    rfl
  · obtain ⟨x, dx, ss, un, S, n, st, pc, rfl, I, ok, h⟩ := h
    have nd := scMJoin.nd
    refine ⟨_, pss_one (ps_ret (pe_ix (r := rIxL K) ix_list (pe_methR (pv 0) LT.cl MA GA hr (passes_call (takes_of rfl rfl rfl rfl) fun _ _ _ _ h => h) (pa_cons (pe_tup (pa_cons pe_str (pa_cons (pv 1) (pa_cons (pv 2) (pa_cons (pv 3) pa_nil))))) pa_nil)) pe_int (fun _ _ => rfl))), ?_⟩
    obtain ⟨fs, hx, hno⟩ := I.lv.ins
    refine ⟨_, rfl, x, dx, _, rfl, hx, hno _ (by decide +kernel) (by decide +kernel) (by decide +kernel) (by decide +kernel) (by decide +kernel), _, rfl, _, rfl, _, rfl, by show 4 ≤ sizeLine; decide, fun b hb => ?_⟩
    have s1 := sameNew hb (.tup (Op.join n st pc).vs)
    exact ask_apply (CO := CO) (I.same s1) ok upd_same (h.same s1) fun r2 vs v H1 h1 h2 q => ⟨r2, vs, ((0 : Nat) : Int), v, rfl, rfl, SqL.of h1, atI_nat h2, q⟩
theorem ok_mRem {f fA CL CR CNm CMy CU CO : Addr} {fd : FuncData} {T : List (Addr × Str)} (F : Fun K "remove" "LiveRoad.remove" sLiveRoadRemove f fd) (LT : LivT K CL) (MA : Meth K CL "apply" fA) (GA : FnR P w K mg base (L2.CX P w) 10 fA (spApply CL CR CNm CMy CU CO T)) : FnOk P w K mg base (L2.CX P w) 11 f fd ["self", "name"] (spMRem CL CR CNm CMy CU T) := by
  refine F.okX scMRem (fun vs H Q E h => ?_) (fun cdv A outer s H vs Q E hr h => ?_)
  · obtain ⟨x, dx, ss, un, S, n, rfl, _⟩ := h
    rfl
  · obtain ⟨x, dx, ss, un, S, n, rfl, I, h⟩ := h
    have nd := scMRem.nd
    refine ⟨_, pss_one (ps_ret (pe_ix (r := rIxL K) ix_list (pe_methR (pv 0) LT.cl MA GA hr (passes_call (takes_of rfl rfl rfl rfl) fun _ _ _ _ h => h) (pa_cons (pe_tup (pa_cons pe_str (pa_cons (pv 1) pa_nil))) pa_nil)) pe_int (fun _ _ => rfl))), ?_⟩
    obtain ⟨fs, hx, hno⟩ := I.lv.ins
    refine ⟨_, rfl, x, dx, _, rfl, hx, hno _ (by decide +kernel) (by decide +kernel) (by decide +kernel) (by decide +kernel) (by decide +kernel), _, rfl, by show 2 ≤ sizeLine; decide, fun b hb => ?_⟩
    have s1 := sameNew hb (.tup (Op.rem n).vs)
    exact ask_apply (CO := CO) (I.same s1) (o := .rem n) True.intro upd_same (h.same s1) fun r2 vs v H1 h1 h2 q => ⟨r2, vs, ((0 : Nat) : Int), v, rfl, rfl, SqL.of h1, atI_nat h2, q⟩
theorem ok_mKind {f fA CL CR CNm CMy CU CO : Addr} {fd : FuncData} {T : List (Addr × Str)} (F : Fun K "set_kind" "LiveRoad.set_kind" sLiveRoadSetKind f fd) (LT : LivT K CL) (MA : Meth K CL "apply" fA) (GA : FnR P w K mg base (L2.CX P w) 10 fA (spApply CL CR CNm CMy CU CO T)) : FnOk P w K mg base (L2.CX P w) 11 f fd ["self", "section", "kind"] (spMKind CL CR CNm CMy CU T) := by
  refine F.okX scMKind (fun vs H Q E h => ?_) (fun cdv A outer s H vs Q E hr h => ?_)
  · obtain ⟨x, dx, ss, un, S, i, b, rfl, _⟩ := h
    rfl
  · obtain ⟨x, dx, ss, un, S, i, b, rfl, I, ok, h⟩ := h
    have nd := scMKind.nd
    refine ⟨_, pss_one (ps_ret (pe_ix (r := rIxL K) ix_list (pe_methR (pv 0) LT.cl MA GA hr (passes_call (takes_of rfl rfl rfl rfl) fun _ _ _ _ h => h) (pa_cons (pe_tup (pa_cons pe_str (pa_cons (pv 1) (pa_cons (pv 2) pa_nil)))) pa_nil)) pe_int (fun _ _ => rfl))), ?_⟩
    obtain ⟨fs, hx, hno⟩ := I.lv.ins
    refine ⟨_, rfl, x, dx, _, rfl, hx, hno _ (by decide +kernel) (by decide +kernel) (by decide +kernel) (by decide +kernel) (by decide +kernel), _, rfl, _, rfl, by show 3 ≤ sizeLine; decide, fun c hc => ?_⟩
    have s1 := sameNew hc (.tup (Op.kind i b).vs)
    exact ask_apply (CO := CO) (I.same s1) ok upd_same (h.same s1) fun r2 vs v H1 h1 h2 q => ⟨r2, vs, ((0 : Nat) : Int), v, rfl, rfl, SqL.of h1, atI_nat h2, q⟩
end
end Sl

set_option Elab.async false
set_option linter.all false
set_option maxRecDepth 100000
set_option maxHeartbeats 4000000
namespace Sl
open PySem PySem.Spec L2 OwnR LamX
theorem cut_init {pre : List V} {s : V} : cutV (pre ++ [s]) none (some (-1)) = pre := by
  unfold cutV
  have e : HT.sIx (pre ++ [s]).length (pre ++ [s]).length (some (-1)) = pre.length := by
    show (if (-1 : Int) < 0 then ((-1 : Int) + (((pre ++ [s]).length : Nat) : Int)).toNat else min (-1 : Int).toNat (pre ++ [s]).length) = _
    rw [if_pos (by decide), List.length_append]
    show ((-1 : Int) + ((pre.length + 1 : Nat) : Int)).toNat = pre.length
    omega
  have e0 : HT.sIx (pre ++ [s]).length 0 none = 0 := rfl
  rw [e, e0]
  simp
theorem StsAt.split {CR : Addr} {H : Hp} {l : Addr} {pre : List LS} {s : LS} (h : StsAt CR H l (pre ++ [s])) : ∃ (us : List Addr) (t : Addr), H l = some (.lst (us.map V.ref ++ [.ref t])) ∧ us.length = pre.length ∧ (∀ (i : Nat) (t : Addr) (s : LS), us[i]? = some t → pre[i]? = some s → StAt CR H t s) ∧ StAt CR H t s := by
  obtain ⟨ts, h1, h2, h3⟩ := h
  rw [List.length_append] at h2
  have h2 : ts.length = pre.length + 1 := h2
  obtain ⟨us, t, rfl⟩ : ∃ us t, ts = us ++ [t] := by
    rcases List.eq_nil_or_concat ts with e | ⟨us, t, e⟩
    · rw [e] at h2
      cases h2
    · exact ⟨us, t, by rw [e, List.concat_eq_append]⟩
  rw [List.length_append] at h2
  have h2 : us.length = pre.length := by
    have : us.length + 1 = pre.length + 1 := h2
    omega
  refine ⟨us, t, by rw [h1, List.map_append]; rfl, h2, fun i u v e1 e2 => h3 i u v ?_ ?_, h3 us.length t s ?_ ?_⟩
  · rw [List.getElem?_append_left (List.getElem?_eq_some_iff.mp e1).1]; exact e1
  · rw [List.getElem?_append_left (List.getElem?_eq_some_iff.mp e2).1]; exact e2
  · rw [List.getElem?_append_right (Nat.le_refl _), Nat.sub_self]; rfl
  · rw [h2, List.getElem?_append_right (Nat.le_refl _), Nat.sub_self]; rfl
section
variable {P : Program} {w : World} {K : PySem.W.Frag} {mg : Str → Option Value} {base : Heap}
/-! ### undo, redo -/
def spUndo (CL CR : Addr) (T : List (Addr × Str)) : Sp := fun vs H Q _ => ∃ (x dx : Addr) (ss un : List LS), vs = [.ref x] ∧ LvAt CL CR H x dx ss un ∧ Tabs T H ∧ ss ≠ [] ∧ ss.length ≤ 500 ∧ un.length ≤ 500 ∧ (ss.length = 1 → Q (.bl false) H) ∧
  ∀ pre s, ss = pre ++ [s] → pre ≠ [] → ∀ H', KpP x H H' → Tabs T H' → LvAt CL CR H' x dx pre (un ++ [s]) → Q (.bl true) H'
theorem scUndo : FnScope ["self"] ["self"] (defScope sLiveRoadUndo) := ⟨rfl, rfl, rfl, by decide +kernel, rfl, by decide +kernel, by decide +kernel⟩
theorem ok_undo {f CL CR : Addr} {fd : FuncData} {T : List (Addr × Str)} (F : Fun K "undo" "LiveRoad.undo" sLiveRoadUndo f fd) (M : Mg mg) (LT : LivT K CL) : FnOk P w K mg base CX0 1 f fd ["self"] (spUndo CL CR T) := by
  refine F.ok scUndo (fun vs H Q E h => ?_) (fun cdv A outer s H vs Q E hr h => ?_)
  · obtain ⟨x, dx, ss, un, rfl, _⟩ := h
    rfl
  · obtain ⟨x, dx, ss, un, rfl, ⟨sl, ul, ks, ku, hx, hsl, hul⟩, hT, hne, h5, h6, k1, k2⟩ := h
    have nd := scUndo.nd
    refine ⟨_, pss_cons (ps_if (pt_cmpR op_eq (pe_callB call_len_seq (by rfl) M.len boot_len (pa_cons (pe_fld (pv 0) rfl) pa_nil)) pe_int (nomark _)) (pss_one (ps_ret pe_bl)) pss_nil)
      (pss_cons (ps_fld (pv 0) (pe_op op_cat (pe_fld (pv 0) rfl) (pe_lst (pa_cons (pe_ix (r := rIxL K) ix_list (pe_fld (pv 0) rfl) (pe_un un_neg pe_int) (fun _ _ => rfl)) pa_nil))) rfl)
      (pss_cons (ps_fld (pv 0) (pe_slice sl_list (pe_fld (pv 0) rfl) po_none (po_some (pe_un un_neg pe_int))) rfl)
      (pss_one (ps_ret pe_bl)))), ?_⟩
    rcases List.eq_nil_or_concat ss with e | ⟨pre, s0, e⟩
    · exact absurd e hne
    rw [List.concat_eq_append] at e
    subst e
    obtain ⟨us, t, u1, u2, u3, u4⟩ := hsl.split
    have hlen : (us.map V.ref ++ [V.ref t]).length = pre.length + 1 := by rw [List.length_append, List.length_map, u2]; rfl
    refine ⟨_, rfl, x, CL, dx, _, _, rfl, hx, LT.cl, LT.ns, lv_s _ _ _ _ _, sl, _, rfl, .inl (SqL.of u1), rfl, _, rfl, ?_⟩
    rw [hlen]
    by_cases hp : pre = []
    · rw [hp]
      exact iteT (k1 (by rw [hp]; rfl))
    have hp0 : pre.length ≠ 0 := fun z => hp (List.length_eq_zero_iff.mp z)
    rw [decide_eq_false (by intro z; have := V.int.inj z; omega)]
    refine iteF ?_
    obtain ⟨vs, v1, v2, v3⟩ := id hul
    refine ⟨_, rfl, x, CL, dx, _, _, rfl, hx, LT.cl, LT.nu, lv_u _ _ _ _ _, _, rfl, x, CL, dx, _, _, rfl, hx, LT.cl, LT.ns, lv_s _ _ _ _ _, _, rfl, sl, _, _, .ref t, rfl, rfl, SqL.of u1, atI_lst hlen (by rw [List.getElem?_append_right (by rw [List.length_map, u2]; exact Nat.le_refl _), List.length_map, u2, Nat.sub_self]; rfl), by show 1 ≤ sizeLine; decide, fun z hz => ?_⟩
    have s1 := sameNew hz (.lst [V.ref t])
    refine ⟨ul, z, _, _, rfl, rfl, s1 _ _ v1, upd_same, Nat.le_trans (m := 1000) (by rw [List.length_map, v2]; show un.length + 1 ≤ 1000; omega) (by decide), fun q hq => ?_⟩
    have s2 := sameNew hq (.lst (vs.map V.ref ++ [V.ref t]))
    have s12 := s1.trans s2
    have hx2 := s12 _ _ hx
    have hq2 : StsAt CR (upd (upd H z (.lst [V.ref t])) q (.lst (vs.map V.ref ++ [V.ref t]))) q (un ++ [s0]) := by
      refine ⟨vs ++ [t], by rw [upd_same, List.map_append]; rfl, by rw [List.length_append, List.length_append, v2]; rfl, fun i a v e1 e2 => ?_⟩
      rcases get_snoc e1 with ⟨l1, e1⟩ | ⟨i1, rfl⟩
      · rcases get_snoc e2 with ⟨_, e2⟩ | ⟨i2, rfl⟩
        · exact (v3 i a v e1 e2).nl (NL.of (ExtN.same s12))
        · omega
      · rcases get_snoc e2 with ⟨l2, e2⟩ | ⟨_, rfl⟩
        · omega
        · exact u4.nl (NL.of (ExtN.same s12))
    have T2 := hT.ext s12
    have sl2 : StsAt CR (upd (upd H z (.lst [V.ref t])) q (.lst (vs.map V.ref ++ [V.ref t]))) sl (pre ++ [s0]) := StsAt.ext ⟨us ++ [t], by rw [u1, List.map_append]; rfl, by rw [List.length_append, List.length_append, u2]; rfl, fun i a v e1 e2 => by
      rcases get_snoc e1 with ⟨l1, e1⟩ | ⟨i1, rfl⟩
      · rcases get_snoc e2 with ⟨_, e2⟩ | ⟨i2, rfl⟩
        · exact u3 i a v e1 e2
        · omega
      · rcases get_snoc e2 with ⟨l2, e2⟩ | ⟨_, rfl⟩
        · omega
        · exact u4⟩ (ExtN.same s12)
    generalize upd (upd H z (.lst [V.ref t])) q (.lst (vs.map V.ref ++ [V.ref t])) = H2 at s12 hx2 hq2 T2 sl2 ⊢
    refine ⟨_, rfl, x, CL, dx, _, rfl, hx2, LT.cl, LT.nu, by show 5 < 1000; decide, ?_⟩
    rw [lvput_u]
    have kp3 := KpP.upd hx2 (.ins CL dx (lvF sl q false ks ku))
    have hx3 : upd H2 x (.ins CL dx (lvF sl q false ks ku)) x = some (.ins CL dx (lvF sl q false ks ku)) := upd_same
    have hq3 := hq2.kp hx2 kp3
    have sl3 := sl2.kp hx2 kp3
    have T3 := Tabs.updI T2 hx2 (.ins CL dx (lvF sl q false ks ku))
    show Ends.nx _ _ (upd H2 x (.ins CL dx (lvF sl q false ks ku)))
    generalize upd H2 x (.ins CL dx (lvF sl q false ks ku)) = H3 at kp3 hx3 hq3 sl3 T3 ⊢
    obtain ⟨ws, t', w1, w2, w3, w4⟩ := sl3.split
    refine ⟨_, rfl, x, CL, dx, _, _, rfl, hx3, LT.cl, LT.ns, lv_s _ _ _ _ _, _, rfl, -1, rfl, sl, _, rfl, SqL.of w1, fun y hy => ?_⟩
    rw [cut_init]
    have s4 := sameNew hy (.lst (ws.map V.ref))
    have hx4 := s4 _ _ hx3
    have hy4 : StsAt CR (upd H3 y (.lst (ws.map V.ref))) y pre := ⟨ws, upd_same, w2, fun i a v e1 e2 => (w3 i a v e1 e2).nl (NL.of (ExtN.same s4))⟩
    have hq4 := hq3.ext (ExtN.same s4)
    have T4 := T3.ext s4
    generalize upd H3 y (.lst (ws.map V.ref)) = H4 at s4 hx4 hy4 hq4 T4 ⊢
    refine ⟨_, rfl, x, CL, dx, _, rfl, hx4, LT.cl, LT.ns, by show 5 < 1000; decide, ?_⟩
    rw [lvput_s]
    exact k2 pre s0 rfl hp _ ((KpP.same s12).trans (kp3.trans ((KpP.same s4).trans (KpP.upd hx4 _)))) (Tabs.updI T4 hx4 _) (LvAt.put hx4 hy4 hq4)
def spRedo (CL CR : Addr) (T : List (Addr × Str)) : Sp := fun vs H Q _ => ∃ (x dx : Addr) (ss un : List LS), vs = [.ref x] ∧ LvAt CL CR H x dx ss un ∧ Tabs T H ∧ ss.length ≤ 500 ∧ un.length ≤ 500 ∧ (un = [] → Q (.bl false) H) ∧
  ∀ pre s, un = pre ++ [s] → ∀ H', KpP x H H' → Tabs T H' → LvAt CL CR H' x dx (ss ++ [s]) pre → Q (.bl true) H'
theorem scRedo : FnScope ["self"] ["self"] (defScope sLiveRoadRedo) := ⟨rfl, rfl, rfl, by decide +kernel, rfl, by decide +kernel, by decide +kernel⟩
theorem ok_redo {f CL CR : Addr} {fd : FuncData} {T : List (Addr × Str)} (F : Fun K "redo" "LiveRoad.redo" sLiveRoadRedo f fd) (M : Mg mg) (LT : LivT K CL) : FnOk P w K mg base CX0 1 f fd ["self"] (spRedo CL CR T) := by
  refine F.ok scRedo (fun vs H Q E h => ?_) (fun cdv A outer s H vs Q E hr h => ?_)
  · obtain ⟨x, dx, ss, un, rfl, _⟩ := h
    rfl
  · obtain ⟨x, dx, ss, un, rfl, ⟨sl, ul, ks, ku, hx, hsl, hul⟩, hT, h5, h6, k1, k2⟩ := h
    have nd := scRedo.nd
    refine ⟨_, pss_cons (ps_if (pt_cmpR op_eq (pe_callB call_len_seq (by rfl) M.len boot_len (pa_cons (pe_fld (pv 0) rfl) pa_nil)) pe_int (nomark _)) (pss_one (ps_ret pe_bl)) pss_nil)
      (pss_cons (ps_fld (pv 0) (pe_op op_cat (pe_fld (pv 0) rfl) (pe_lst (pa_cons (pe_ix (r := rIxL K) ix_list (pe_fld (pv 0) rfl) (pe_un un_neg pe_int) (fun _ _ => rfl)) pa_nil))) rfl)
      (pss_cons (ps_fld (pv 0) (pe_slice sl_list (pe_fld (pv 0) rfl) po_none (po_some (pe_un un_neg pe_int))) rfl)
      (pss_one (ps_ret pe_bl)))), ?_⟩
    obtain ⟨vs, v1, v2, v3⟩ := id hsl
    rcases List.eq_nil_or_concat un with e | ⟨pre, s0, e⟩
    · obtain ⟨us, u1, u2, _⟩ := id hul
      refine ⟨_, rfl, x, CL, dx, _, _, rfl, hx, LT.cl, LT.nu, lv_u _ _ _ _ _, ul, _, rfl, .inl (SqL.of u1), rfl, _, rfl, ?_⟩
      rw [List.length_map, u2, e]
      exact iteT (k1 e)
    rw [List.concat_eq_append] at e
    subst e
    obtain ⟨us, t, u1, u2, u3, u4⟩ := hul.split
    have hlen : (us.map V.ref ++ [V.ref t]).length = pre.length + 1 := by rw [List.length_append, List.length_map, u2]; rfl
    refine ⟨_, rfl, x, CL, dx, _, _, rfl, hx, LT.cl, LT.nu, lv_u _ _ _ _ _, ul, _, rfl, .inl (SqL.of u1), rfl, _, rfl, ?_⟩
    rw [hlen, decide_eq_false (by intro z; have := V.int.inj z; omega)]
    refine iteF ?_
    refine ⟨_, rfl, x, CL, dx, _, _, rfl, hx, LT.cl, LT.ns, lv_s _ _ _ _ _, _, rfl, x, CL, dx, _, _, rfl, hx, LT.cl, LT.nu, lv_u _ _ _ _ _, _, rfl, ul, _, _, .ref t, rfl, rfl, SqL.of u1, atI_lst hlen (by rw [List.getElem?_append_right (by rw [List.length_map, u2]; exact Nat.le_refl _), List.length_map, u2, Nat.sub_self]; rfl), by show 1 ≤ sizeLine; decide, fun z hz => ?_⟩
    have s1 := sameNew hz (.lst [V.ref t])
    refine ⟨sl, z, _, _, rfl, rfl, s1 _ _ v1, upd_same, Nat.le_trans (m := 1000) (by rw [List.length_map, v2]; show ss.length + 1 ≤ 1000; omega) (by decide), fun q hq => ?_⟩
    have s2 := sameNew hq (.lst (vs.map V.ref ++ [V.ref t]))
    have s12 := s1.trans s2
    have hx2 := s12 _ _ hx
    have hq2 : StsAt CR (upd (upd H z (.lst [V.ref t])) q (.lst (vs.map V.ref ++ [V.ref t]))) q (ss ++ [s0]) := by
      refine ⟨vs ++ [t], by rw [upd_same, List.map_append]; rfl, by rw [List.length_append, List.length_append, v2]; rfl, fun i a v e1 e2 => ?_⟩
      rcases get_snoc e1 with ⟨l1, e1⟩ | ⟨i1, rfl⟩
      · rcases get_snoc e2 with ⟨_, e2⟩ | ⟨i2, rfl⟩
        · exact (v3 i a v e1 e2).nl (NL.of (ExtN.same s12))
        · omega
      · rcases get_snoc e2 with ⟨l2, e2⟩ | ⟨_, rfl⟩
        · omega
        · exact u4.nl (NL.of (ExtN.same s12))
    have T2 := hT.ext s12
    have ul2 := hul.ext (ExtN.same s12)
    generalize upd (upd H z (.lst [V.ref t])) q (.lst (vs.map V.ref ++ [V.ref t])) = H2 at s12 hx2 hq2 T2 ul2 ⊢
    refine ⟨_, rfl, x, CL, dx, _, rfl, hx2, LT.cl, LT.ns, by show 5 < 1000; decide, ?_⟩
    rw [lvput_s]
    have kp3 := KpP.upd hx2 (.ins CL dx (lvF q ul false ks ku))
    have hx3 : upd H2 x (.ins CL dx (lvF q ul false ks ku)) x = some (.ins CL dx (lvF q ul false ks ku)) := upd_same
    have hq3 := hq2.kp hx2 kp3
    have ul3 := ul2.kp hx2 kp3
    have T3 := Tabs.updI T2 hx2 (.ins CL dx (lvF q ul false ks ku))
    show Ends.nx _ _ (upd H2 x (.ins CL dx (lvF q ul false ks ku)))
    generalize upd H2 x (.ins CL dx (lvF q ul false ks ku)) = H3 at kp3 hx3 hq3 ul3 T3 ⊢
    obtain ⟨ws, t', w1, w2, w3, w4⟩ := ul3.split
    refine ⟨_, rfl, x, CL, dx, _, _, rfl, hx3, LT.cl, LT.nu, lv_u _ _ _ _ _, _, rfl, -1, rfl, ul, _, rfl, SqL.of w1, fun y hy => ?_⟩
    rw [cut_init]
    have s4 := sameNew hy (.lst (ws.map V.ref))
    have hx4 := s4 _ _ hx3
    have hy4 : StsAt CR (upd H3 y (.lst (ws.map V.ref))) y pre := ⟨ws, upd_same, w2, fun i a v e1 e2 => (w3 i a v e1 e2).nl (NL.of (ExtN.same s4))⟩
    have hq4 := hq3.ext (ExtN.same s4)
    have T4 := T3.ext s4
    generalize upd H3 y (.lst (ws.map V.ref)) = H4 at s4 hx4 hy4 hq4 T4 ⊢
    refine ⟨_, rfl, x, CL, dx, _, rfl, hx4, LT.cl, LT.nu, by show 5 < 1000; decide, ?_⟩
    rw [lvput_u]
    exact k2 pre s0 rfl _ ((KpP.same s12).trans (kp3.trans ((KpP.same s4).trans (KpP.upd hx4 _)))) (Tabs.updI T4 hx4 _) (LvAt.put hx4 hq4 hy4)
/-! ### what it tells -/
theorem LvAt.now {CL CR : Addr} {H : Hp} {x dx : Addr} {ss un : List LS} {S : St2} {q : Option Op} (h : LvAt CL CR H x dx ss un) (e : ss.getLast? = some (S, q)) : ∃ (sl ul ks ku : Addr) (ts : List Addr) (t : Addr) (m : Nat) (p a : Addr) (o : V), H x = some (.ins CL dx (lvF sl ul false ks ku)) ∧ H sl = some (.lst (ts.map V.ref)) ∧ (ts.map V.ref).length = m + 1 ∧ ts[m]? = some t ∧ H t = some (.tup [.ref p, .ref a, o]) ∧ RoadAt CR H p S.1 ∧ CarsAt H a S.2 := by
  obtain ⟨sl, ul, ks, ku, h1, h2, h3⟩ := h
  obtain ⟨ts, t, m, a1, a2, a3, p, a, o, b1, b2, b3, b4⟩ := h2.last e
  exact ⟨sl, ul, ks, ku, ts, t, m, p, a, o, h1, a1, a2, a3, b1, b2, b3⟩
def spPRoad (CL CR : Addr) : Sp := fun vs H Q _ => ∃ (x dx : Addr) (ss un : List LS) (S : St2) (q : Option Op), vs = [.ref x] ∧ LvAt CL CR H x dx ss un ∧ ss.getLast? = some (S, q) ∧ ∀ p, RoadAt CR H p S.1 → Q (.ref p) H
def spPCars (CL CR : Addr) : Sp := fun vs H Q _ => ∃ (x dx : Addr) (ss un : List LS) (S : St2) (q : Option Op), vs = [.ref x] ∧ LvAt CL CR H x dx ss un ∧ ss.getLast? = some (S, q) ∧ ∀ a, CarsAt H a S.2 → Q (.ref a) H
def spLLen (CL CR : Addr) : Sp := fun vs H Q _ => ∃ (x dx : Addr) (ss un : List LS) (S : St2) (q : Option Op), vs = [.ref x] ∧ LvAt CL CR H x dx ss un ∧ ss.getLast? = some (S, q) ∧ Q (.int ((S.2.length : Nat) : Int)) H
theorem scPRoad : FnScope ["self"] ["self"] (defScope sLiveRoadPresentRoad) := ⟨rfl, rfl, rfl, by decide +kernel, rfl, by decide +kernel, by decide +kernel⟩
theorem scPCars : FnScope ["self"] ["self"] (defScope sLiveRoadPresentCars) := ⟨rfl, rfl, rfl, by decide +kernel, rfl, by decide +kernel, by decide +kernel⟩
theorem scLLen : FnScope ["self"] ["self"] (defScope sLiveRoadLen) := ⟨rfl, rfl, rfl, by decide +kernel, rfl, by decide +kernel, by decide +kernel⟩
theorem ok_pRoad {f CL CR : Addr} {fd : FuncData} (F : Fun K "present_road" "LiveRoad.present_road" sLiveRoadPresentRoad f fd) (LT : LivT K CL) : FnOk P w K mg base CX0 1 f fd ["self"] (spPRoad CL CR) := by
  refine F.ok scPRoad (fun vs H Q E h => ?_) (fun cdv A outer s H vs Q E hr h => ?_)
  · obtain ⟨x, dx, ss, un, S, q, rfl, _⟩ := h
    rfl
  · obtain ⟨x, dx, ss, un, S, q, rfl, lv, e, k⟩ := h
    obtain ⟨sl, ul, ks, ku, ts, t, m, p, a, o, hx, a1, a2, a3, b1, b2, b3⟩ := lv.now e
    refine ⟨_, pss_one (ps_ret (pe_ix (r := rIxT K) ix_tup (pe_ix (r := rIxL K) ix_list (pe_fld (pv 0) rfl) (pe_un un_neg pe_int) (fun _ _ => rfl)) pe_int (fun _ _ => rfl))), ?_⟩
    exact ⟨_, rfl, x, CL, dx, _, _, rfl, hx, LT.cl, LT.ns, lv_s _ _ _ _ _, _, rfl, sl, _, _, .ref t, rfl, rfl, SqL.of a1, atI_lst a2 (map_atZ V.ref a3), t, _, ((0 : Nat) : Int), .ref p, rfl, rfl, SqT.of b1, atI_nat rfl, k p b2⟩
theorem ok_pCars {f CL CR : Addr} {fd : FuncData} (F : Fun K "present_cars" "LiveRoad.present_cars" sLiveRoadPresentCars f fd) (LT : LivT K CL) : FnOk P w K mg base CX0 1 f fd ["self"] (spPCars CL CR) := by
  refine F.ok scPCars (fun vs H Q E h => ?_) (fun cdv A outer s H vs Q E hr h => ?_)
  · obtain ⟨x, dx, ss, un, S, q, rfl, _⟩ := h
    rfl
  · obtain ⟨x, dx, ss, un, S, q, rfl, lv, e, k⟩ := h
    obtain ⟨sl, ul, ks, ku, ts, t, m, p, a, o, hx, a1, a2, a3, b1, b2, b3⟩ := lv.now e
    refine ⟨_, pss_one (ps_ret (pe_ix (r := rIxT K) ix_tup (pe_ix (r := rIxL K) ix_list (pe_fld (pv 0) rfl) (pe_un un_neg pe_int) (fun _ _ => rfl)) pe_int (fun _ _ => rfl))), ?_⟩
    exact ⟨_, rfl, x, CL, dx, _, _, rfl, hx, LT.cl, LT.ns, lv_s _ _ _ _ _, _, rfl, sl, _, _, .ref t, rfl, rfl, SqL.of a1, atI_lst a2 (map_atZ V.ref a3), t, _, ((1 : Nat) : Int), .ref a, rfl, rfl, SqT.of b1, atI_nat rfl, k a b3⟩
theorem ok_lLen {f CL CR : Addr} {fd : FuncData} (F : Fun K "__len__" "LiveRoad.__len__" sLiveRoadLen f fd) (M : Mg mg) (LT : LivT K CL) : FnOk P w K mg base CX0 1 f fd ["self"] (spLLen CL CR) := by
  refine F.ok scLLen (fun vs H Q E h => ?_) (fun cdv A outer s H vs Q E hr h => ?_)
  · obtain ⟨x, dx, ss, un, S, q, rfl, _⟩ := h
    rfl
  · obtain ⟨x, dx, ss, un, S, q, rfl, lv, e, k⟩ := h
    obtain ⟨sl, ul, ks, ku, ts, t, m, p, a, o, hx, a1, a2, a3, b1, b2, us, c1, c2, c3⟩ := lv.now e
    refine ⟨_, pss_one (ps_ret (pe_callB call_len_seq (by rfl) M.len boot_len (pa_cons (pe_ix (r := rIxT K) ix_tup (pe_ix (r := rIxL K) ix_list (pe_fld (pv 0) rfl) (pe_un un_neg pe_int) (fun _ _ => rfl)) pe_int (fun _ _ => rfl)) pa_nil))), ?_⟩
    refine ⟨_, rfl, x, CL, dx, _, _, rfl, hx, LT.cl, LT.ns, lv_s _ _ _ _ _, _, rfl, sl, _, _, .ref t, rfl, rfl, SqL.of a1, atI_lst a2 (map_atZ V.ref a3), t, _, ((1 : Nat) : Int), .ref a, rfl, rfl, SqT.of b1, atI_nat rfl, a, _, rfl, .inr (SqT.of c1), ?_⟩
    rw [List.length_map, c2]
    exact k
def spLDrive (CL CR C : Addr) (T : List (Addr × Str)) : Sp := fun vs H Q _ => ∃ (x dx : Addr) (ss un : List LS) (S : St2) (q : Option Op), vs = [.ref x] ∧ LvAt CL CR H x dx ss un ∧ ss.getLast? = some (S, q) ∧ StOk S ∧ Tabs T H ∧ ∀ H' d, ExtN H H' → Tabs T H' → DA C H' d S.1 S.2 → Q (.ref d) H'
theorem scLDrive : FnScope ["self", "road", "cars", "last"] ["self"] (defScope sLiveRoadDrive) := ⟨rfl, rfl, rfl, by decide +kernel, rfl, by decide +kernel, by decide +kernel⟩
theorem ok_lDrive {f fI CL CR C : Addr} {fd dI : FuncData} {T : List (Addr × Str)} (F : Fun K "drive" "LiveRoad.drive" sLiveRoadDrive f fd) (LT : LivT K CL) (R : DriveT K mg C) (MI : Mk K C fI) (bI : Binds K dI ["self", "road", "cars"] []) (GI : FnOk P w K mg base CX0 5 fI dI ["self", "road", "cars"] (spDInit CR C T)) : FnOk P w K mg base CX0 7 f fd ["self"] (spLDrive CL CR C T) := by
  refine F.ok scLDrive (fun vs H Q E h => ?_) (fun cdv A outer s H vs Q E hr h => ?_)
  · obtain ⟨x, dx, ss, un, S, q, rfl, _⟩ := h
    rfl
  · obtain ⟨x, dx, ss, un, S, q, rfl, lv, e, ok, hT, k⟩ := h
    have nd := scLDrive.nd
    obtain ⟨sl, ul, ks, ku, ts, t, m, p, a, o, hx, a1, a2, a3, b1, b2, b3⟩ := lv.now e
    refine ⟨_, pss_cons (ps_asg (pe_ix (r := rIxL K) ix_list (pe_fld (pv 0) rfl) (pe_un un_neg pe_int) (fun _ _ => rfl)) (pg_tup rfl (pgs_cons (pg_name (i := 1) nd rfl (.inl rfl)) (pgs_cons (pg_name (i := 2) nd rfl (.inl rfl)) (pgs_cons (pg_name (i := 3) nd rfl (.inl rfl)) pgs_nil)))))
      (pss_one (ps_ret (pe_make MI GI hr (by rfl) R.mgC bI .nil pass0 (pa_cons (pv 1) (pa_cons (pv 2) pa_nil))))), ?_⟩
    refine ⟨_, rfl, x, CL, dx, _, _, rfl, hx, LT.cl, LT.ns, lv_s _ _ _ _ _, _, rfl, sl, _, _, .ref t, rfl, rfl, SqL.of a1, atI_lst a2 (map_atZ V.ref a3), t, _, rfl, SqT.of b1, rfl, _, _, rfl, _, _, rfl, _, _, rfl, rfl, ?_⟩
    exact ⟨_, rfl, _, rfl, fun dv dy hdv hdy ndx => mk_drive b2 b3 ok.so ok.co hT hdv hdy fun H1 e1 T1 da1 => ⟨rfl, k H1 dv e1 T1 da1⟩⟩
end
end Sl

set_option Elab.async false
set_option linter.all false
set_option maxRecDepth 100000
set_option maxHeartbeats 4000000
namespace Sl
open PySem PySem.Spec L2 OwnR LamX
section
variable {P : Program} {w : World} {K : PySem.W.Frag} {mg : Str → Option Value} {base : Heap}
/-! ### history -/
/-- the first state, and those that operations led to -/
def hisL (S0 : St2) (rs : List (St2 × Op)) : List LS := (S0, none) :: rs.map fun r => (r.1, some r.2)
def spLHist (CL CR : Addr) : Sp := fun vs H Q _ => ∃ (x dx : Addr) (S0 : St2) (rs : List (St2 × Op)) (un : List LS), vs = [.ref x] ∧ LvAt CL CR H x dx (hisL S0 rs) un ∧ rs.length ≤ 500 ∧ ∀ H' l, Same H H' → H l = none → TupsAt H' l (rs.map fun r => r.2.vs) → Q (.ref l) H'
def nLHist : List Str := ["self", "road", "cars", "operation"]
theorem scLHist : FnScope nLHist ["self"] (defScope sLiveRoadHistory) := ⟨rfl, rfl, rfl, by decide +kernel, rfl, by decide +kernel, by decide +kernel⟩
theorem ok_lHist {f CL CR : Addr} {fd : FuncData} (F : Fun K "history" "LiveRoad.history" sLiveRoadHistory f fd) (LT : LivT K CL) : FnOk P w K mg base CX0 1 f fd ["self"] (spLHist CL CR) := by
  refine F.ok scLHist (fun vs H Q E h => ?_) (fun cdv A outer s H vs Q E hr h => ?_)
  · obtain ⟨x, dx, S0, rs, un, rfl, _⟩ := h
    rfl
  · obtain ⟨x, dx, S0, rs, un, rfl, ⟨sl, ul, ks, ku, hx, ⟨ts, t1, t2, t3⟩, hul⟩, h5, k⟩ := h
    have nd := scLHist.nd
    refine ⟨_, pss_one (ps_ret (pe_lc (own := [("road", 1), ("cars", 2), ("operation", 3)]) (g := gTup K 3 (gCons (gName 1) (gCons (gName 2) (gCons (gName 3) gNil)))) (tt := tYes) (te := tVar 3) (by rfl) nd (pi_list (pe_slice sl_list (pe_fld (pv 0) rfl) (po_some pe_int) po_none)) (blkOk_by (N := nLHist) (sc := defScope sLiveRoadHistory) (by decide +kernel))
        (fun _ _ _ _ _ => pg_tup rfl (pgs_cons (pg_name (i := 1) nd rfl (Or.inl rfl)) (pgs_cons (pg_name (i := 2) nd rfl (Or.inl rfl)) (pgs_cons (pg_name (i := 3) nd rfl (Or.inl rfl)) pgs_nil)))) (fun _ _ _ _ _ => pts_nil) (fun _ _ _ _ _ => pv 3))), ?_⟩
    have t2 : ts.length = rs.length + 1 := by rw [t2]; unfold hisL; rw [List.length_cons, List.length_map]
    obtain ⟨t0, us, rfl⟩ : ∃ t0 us, ts = t0 :: us := by
      cases ts with
      | nil => cases t2
      | cons a l => exact ⟨a, l, rfl⟩
    have u2 : us.length = rs.length := by
      have : us.length + 1 = rs.length + 1 := t2
      omega
    refine ⟨_, rfl, x, CL, dx, _, _, rfl, hx, LT.cl, LT.ns, lv_s _ _ _ _ _, 1, rfl, sl, _, rfl, SqL.of t1, fun z hz => ?_⟩
    rw [show (some (1 : Int)) = some ((1 : Nat) : Int) from rfl, cut_from (by rw [List.length_map]; show 1 ≤ us.length + 1; omega)]
    have s1 := sameNew hz (.lst (((t0 :: us).map V.ref).drop 1))
    have hz1 : upd H z (.lst (((t0 :: us).map V.ref).drop 1)) z = some (.lst (us.map V.ref)) := upd_same
    have get : ∀ (i : Nat) (t : Addr) (r : St2 × Op), us[i]? = some t → rs[i]? = some r → ∃ p a b, upd H z (.lst (((t0 :: us).map V.ref).drop 1)) t = some (.tup [.ref p, .ref a, .ref b]) ∧ upd H z (.lst (((t0 :: us).map V.ref).drop 1)) b = some (.tup r.2.vs) := fun i t r e1 e2 => by
      obtain ⟨p, a, o, h1, _, _, h4⟩ := t3 (i + 1) t (r.1, some r.2) e1 (by unfold hisL; rw [List.getElem?_cons_succ, List.getElem?_map, e2]; rfl)
      obtain ⟨b, rfl, hb⟩ := h4
      exact ⟨p, a, b, s1 _ _ h1, s1 _ _ hb⟩
    generalize upd H z (.lst (((t0 :: us).map V.ref).drop 1)) = H1 at s1 hz1 get ⊢
    refine ⟨z, rfl, ⟨_, SqL.of hz1⟩, fun D hD => ?_⟩
    refine lc_it walk_list (fun i H2 => Same H1 H2 ∧ ∃ bs : List Addr, H2 D = some (.lst (bs.map V.ref)) ∧ bs.length = i ∧ ∀ (j : Nat) (b : Addr) (r : St2 × Op), bs[j]? = some b → rs[j]? = some r → H1 b = some (.tup r.2.vs)) ⟨sameNew hD _, [], upd_same, rfl, fun _ _ _ w => nomatch w⟩ (fun i H2 _ ⟨k1, _⟩ => SqL.of (k1 _ _ hz1)) ?_ ?_
    · rintro i y Hz H2 hi ⟨k1, bs, b1, b2, b3⟩ ⟨e, hy⟩
      subst e
      rw [List.length_map] at hi
      obtain ⟨t, ht⟩ : ∃ t, us[i]? = some t := ⟨_, List.getElem?_eq_getElem hi⟩
      obtain ⟨r, hrr⟩ : ∃ r, rs[i]? = some r := ⟨_, List.getElem?_eq_getElem (by omega)⟩
      obtain rfl : y = V.ref t := by
        rw [List.getElem?_map, ht] at hy
        exact (Option.some.inj hy).symm
      obtain ⟨p, a, b, g1, g2⟩ := get i t r ht hrr
      refine ⟨t, _, rfl, SqT.of (k1 _ _ g1), rfl, _, _, rfl, _, _, rfl, _, _, rfl, rfl, rfl, yes_of ?_⟩
      refine ⟨_, rfl, _, b1, by rw [List.length_map, b2]; exact small1000 (by omega), fun c o e => by rw [upd_ne (ne_of_none e hD)]; exact k1 _ _ e, bs ++ [b], by rw [upd_same, List.map_append]; rfl, by rw [List.length_append, b2]; rfl, fun j c q e1 e2 => ?_⟩
      rcases get_snoc e1 with ⟨l1, e1⟩ | ⟨i1, rfl⟩
      · exact b3 j c q e1 e2
      · rw [i1, b2, hrr] at e2
        rw [← Option.some.inj e2]
        exact g2
    rintro H2 ⟨k1, bs, b1, b2, b3⟩
    rw [List.length_map, u2] at b2
    refine k H2 D (s1.trans k1) ?_ ⟨bs, b1, by rw [b2, List.length_map], fun i t v e1 e2 => ?_⟩
    · cases q : H D with
      | none => rfl
      | some o =>
        have := s1 _ _ q
        rw [hD] at this
        cases this
    · rw [List.getElem?_map] at e2
      obtain ⟨r, r1, r2⟩ := Option.map_eq_some_iff.mp e2
      rw [← r2]
      exact k1 _ _ (b3 i t r e1 r1)
/-! ### name in live -/
def spLHas (CL CR : Addr) : Sp := fun vs H Q _ => ∃ (x dx : Addr) (ss un : List LS) (S : St2) (q : Option Op) (n : Str), vs = [.ref x, .str n] ∧ LvAt CL CR H x dx ss un ∧ ss.getLast? = some (S, q) ∧ StOk S ∧ ∀ H', Same H H' → Q (.bl (decide (n ∈ names S.2))) H'
def nLHas : List Str := ["self", "x", "name", "start", "pace"]
theorem scLHas : FnScope nLHas ["self", "x"] (defScope sLiveRoadContains) := ⟨rfl, rfl, rfl, by decide +kernel, rfl, by decide +kernel, by decide +kernel⟩
theorem ok_lHas {f CL CR : Addr} {fd : FuncData} (F : Fun K "__contains__" "LiveRoad.__contains__" sLiveRoadContains f fd) (LT : LivT K CL) : FnOk P w K mg base CX0 1 f fd ["self", "x"] (spLHas CL CR) := by
  refine F.ok scLHas (fun vs H Q E h => ?_) (fun cdv A outer s H vs Q E hr h => ?_)
  · obtain ⟨x, dx, ss, un, S, q, n, rfl, _⟩ := h
    rfl
  · obtain ⟨x, dx, ss, un, S, q, n, rfl, lv, e, ok, k⟩ := h
    have nd := scLHas.nd
    obtain ⟨sl, ul, ks, ku, ts, t, m, p, a, o, hx, a1, a2, a3, b1, b2, us, h1, h2, h3⟩ := lv.now e
    refine ⟨_, pss_one (ps_ret (pe_cmpR op_in_seq (pv 1) (pe_lc (own := [("name", 2), ("start", 3), ("pace", 4)]) (g := gTup K 3 (gCons (gName 2) (gCons (gName 3) (gCons (gName 4) gNil)))) (tt := tYes) (te := tVar 2) (by rfl) nd (pi_tup (pe_ix (r := rIxT K) ix_tup (pe_ix (r := rIxL K) ix_list (pe_fld (pv 0) rfl) (pe_un un_neg pe_int) (fun _ _ => rfl)) pe_int (fun _ _ => rfl))) (blkOk_by (N := nLHas) (sc := defScope sLiveRoadContains) (by decide +kernel))
          (fun _ _ _ _ _ => pg_tup rfl (pgs_cons (pg_name (i := 2) nd rfl (Or.inl rfl)) (pgs_cons (pg_name (i := 3) nd rfl (Or.inl rfl)) (pgs_cons (pg_name (i := 4) nd rfl (Or.inl rfl)) pgs_nil)))) (fun _ _ _ _ _ => pts_nil) (fun _ _ _ _ _ => pv 2)) (by rfl))), ?_⟩
    have hl : (us.map V.ref).length = S.2.length := by rw [List.length_map, h2]
    have few := ok.co.few
    refine ⟨_, rfl, _, rfl, x, CL, dx, _, _, rfl, hx, LT.cl, LT.ns, lv_s _ _ _ _ _, _, rfl, sl, _, _, .ref t, rfl, rfl, SqL.of a1, atI_lst a2 (map_atZ V.ref a3), t, _, ((1 : Nat) : Int), .ref a, rfl, rfl, SqT.of b1, atI_nat rfl, a, rfl, ⟨_, SqT.of h1⟩, fun D hD => ?_⟩
    refine lc_it walk_tup (fun i H1 => Same H H1 ∧ H1 D = some (.lst (((S.2.take i).map (·.name)).map V.str)))
      ⟨sameNew hD _, upd_same⟩ (fun i H1 _ ⟨k1, _⟩ => SqT.of (k1 _ _ h1)) ?_ ?_
    · rintro i y Hz H1 hi ⟨k1, hD1⟩ ⟨e, hy⟩
      subst e
      obtain ⟨u, hu, rfl⟩ : ∃ t, us[i]? = some t ∧ y = V.ref t := by
        rw [List.getElem?_map] at hy
        obtain ⟨t, z1, z2⟩ := Option.map_eq_some_iff.mp hy
        exact ⟨t, z1, z2.symm⟩
      rw [hl] at hi
      obtain ⟨c, hc⟩ : ∃ c, S.2[i]? = some c := ⟨_, List.getElem?_eq_getElem hi⟩
      refine ⟨u, _, rfl, SqT.of (k1 _ _ (h3 i u c hu hc)), rfl, _, _, rfl, _, _, rfl, _, _, rfl, rfl, rfl, yes_of ?_⟩
      refine ⟨_, rfl, _, hD1, by rw [List.length_map, List.length_map, List.length_take]; exact small1000 (by omega), fun b o e => by rw [upd_ne (ne_of_none e hD)]; exact k1 _ _ e, ?_⟩
      rw [upd_same, tk1 hc, List.map_append, List.map_append]
      rfl
    · rintro H1 ⟨k1, hD1⟩
      rw [hl, List.take_length] at hD1
      refine ⟨D, _, rfl, .inl (SqL.of hD1), rfl, flat_strs _, ?_⟩
      have := k H1 k1
      have e2 : inV (V.str n) ((S.2.map (·.name)).map V.str) = decide (n ∈ names S.2) := inV_str _ _
      rw [← e2] at this
      exact this
end
end Sl

set_option Elab.async false
set_option linter.all false
set_option maxRecDepth 100000
set_option maxHeartbeats 2000000
namespace OwnR
open PySem PySem.Spec PyProof.Rows L2
section
variable {X : Cx} {CX : CXT} {k : Nat} {C f g : Addr} {sp : Sp} {E : XK}
/-! ### x(e), x a slot that holds the class C -/
def tMakeV (C : Addr) (sp : Sp) (E : XK) (tf : TE) (t : TA) : TE := fun σ H Q => tf σ H fun z H0 => z = .ref C ∧ StX.tMakeR C sp E t σ H0 Q
theorem pe_makeV {x : Str} {e : Expr} {p pos : Pos} {tf : TE} {t : TA} (M : Mk X.K C f) (F : FnR X.prog X.w X.K X.mg X.base CX k f sp) (hr : Room (k + 1) X.A) (hx : Passes CX X E) (hf : PE X (.Name x p) tf) (ha : PA X [e] t)
    (he : starEach [e] X.env = (false, eval e X.env) :: starEach [] X.env := by rfl) (hpl : (backTo pos (starEach [] X.env)).any (·.1) = false := by rfl) : PE X (.Call (.Name x p) [e] [] pos) (tMakeV C sp E tf t) := ⟨fun pins s σ H Q I h => by
  refine wpAny_Call_Name_kw (thn (hf.run pins s σ H _ I h) fun u s0 ⟨z, H0, I0, rz, ez, q0⟩ => ?_)
  subst ez
  cases (show u = Value.ref C from rz)
  exact PySem.W.callWith_K (h₀ := X.base) I.ok.mod.kin M.kp (thn (ha.run pos pins s0 σ H0 _ I0 q0) fun us s1 ⟨vs, H1, I1, r, q⟩ => ⟨I1.kIn, StX.run_makeR M F hr hx I1 r q⟩) he hpl⟩
/-! ### o.m( *e ), e a list or a tuple -/
def tMethL (K : PySem.W.Frag) (C : Addr) (m : Str) (g : Addr) (sp : Sp) (E : XK) (ta te : TE) : TE := fun σ H Q => ta σ H fun x H1 => ∃ a dx fs, x = .ref a ∧ H1 a = some (.ins C dx fs) ∧ fs.lookup m = none ∧
  ∀ q, H1 q = none → te σ (upd H1 q (.met g a)) fun y H2 => ∃ b vs, y = .ref b ∧ (SqT K H2 b vs ∨ SqL K H2 b vs) ∧ H2 q = some (.met g a) ∧ sp (.ref a :: vs) H2 Q E
theorem pe_methL {m : Str} {o e : Expr} {ta te : TE} {p apos pos : Pos} (ho : PE X o ta) (c : Cls X.K C) (b : BMeth X.K C m g) (F : FnR X.prog X.w X.K X.mg X.base CX k g sp) (hr : Room k X.A) (hx : Passes CX X E) (he : PE X e te)
    (hbase : attributeBase o m X.env (eval o X.env) = eval o X.env := by rfl) : PE X (.Call (.Attribute o m apos) [.Starred e p] [] pos) (tMethL X.K C m g sp E ta te) := ⟨fun pins s σ H Q I h =>
  starcall_of hbase (thn (ho.run pins s σ H _ I h) fun u s1 hu => by
    obtain ⟨x, H1, I1, rx, a, dx, fs, ex, ea, l, q⟩ := hu
    subst ex
    cases (show u = Value.ref a from rx)
    exact getbound_ok I1 ea c b l fun q1 s2 hq1 I2 => PySem.W.ks_call (P := PySem.W.MethP X.K q1 g (.ref a)) rfl (PySem.W.keeps_M b.fi) (PySem.W.ks_lone (thn (he.run pins s2 σ _ _ I2 (q q1 hq1)) fun v s3 hv => by
      obtain ⟨y, H2, I3, ry, t, vs, ey, ht, hm, hsp⟩ := hv
      subst ey
      cases (show v = Value.ref t from ry)
      exact StX.star_any I3 ht fun us s4 I4 rv => ⟨met_P I4 hm, wpAny_call (PySem.W.method_call (met_P I4 hm).1 (run_fnR (us := Value.ref a :: us) (vs := V.ref a :: vs) F hr hx I4 (.cons rfl rv) hsp))⟩)))⟩
/-! ### o.m() by a positional promise -/
theorem pe_meth0R {m : Str} {o : Expr} {ta : TE} {apos pos : Pos} {pl : Sem Bool} (ho : PE X o ta) (c : Cls X.K C) (b : Meth X.K C m g) (F : FnR X.prog X.w X.K X.mg X.base CX k g sp) (hr : Room k X.A) (hx : Passes CX X E)
    (hev : eval (.Call (.Attribute o m apos) [] [] pos) X.env = (do
      let v ← eval o X.env
      standAt apos.atName
      let (h, first) ← holding [v] (getMethod v m pl)
      callWith pos h first (backTo pos (starEach [] X.env)) (backToKw pos (keywordEach [] X.env))) := by rfl) : PE X (.Call (.Attribute o m apos) [] [] pos) (tMethR C m sp E ta tNil) := ⟨fun pins s σ H Q I h => PySem.W.methodCall_KW (pl := pl) (thn (ho.run pins s σ H _ I h) fun u s1 hu => by
  obtain ⟨x, H1, I1, rx, a, dx, fs, ex, ea, l, q⟩ := hu
  subst ex
  cases (show u = Value.ref a from rx)
  exact getmeth_ok I1 ea c b l (PySem.W.callWith_K0 (first := [.ref a]) I1.kIn b.kp (wpAny_call (run_fnR (us := [.ref a]) (vs := [.ref a]) F hr hx I1 (.cons rfl .nil) q)))) hev⟩
end
end OwnR

set_option Elab.async false
set_option linter.all false
set_option maxRecDepth 100000
set_option maxHeartbeats 4000000
namespace Sl
open PySem PySem.Spec L2 OwnR LamX
section
variable {P : Program} {w : World} {K : PySem.W.Frag} {mg : Str → Option Value} {base : Heap}
/-! ### _check_no_block -/
def spNoBlock (CL CR : Addr) : Sp := fun vs H Q _ => ∃ (x dx : Addr) (ss un : List LS), vs = [.ref x] ∧ LvAt CL CR H x dx ss un ∧ Q .non H
theorem scNoBlock : FnScope ["self"] ["self"] (defScope sLiveRoadCheckNoBlock) := ⟨rfl, rfl, rfl, by decide +kernel, rfl, by decide +kernel, by decide +kernel⟩
theorem ok_noBlock {f CL CR : Addr} {fd : FuncData} (F : Fun K "_check_no_block" "LiveRoad._check_no_block" sLiveRoadCheckNoBlock f fd) (LT : LivT K CL) : FnOk P w K mg base CX0 1 f fd ["self"] (spNoBlock CL CR) := by
  refine F.ok scNoBlock (fun vs H Q E h => ?_) (fun cdv A outer s H vs Q E hr h => ?_)
  · obtain ⟨x, dx, ss, un, rfl, _⟩ := h
    rfl
  · obtain ⟨x, dx, ss, un, rfl, ⟨sl, ul, ks, ku, hx, _⟩, k⟩ := h
    refine ⟨_, pss_one (ps_if (pt_truth (pe_fld (pv 0) rfl) (fun _ => rfl)) (pss_one ps_never) pss_nil), ?_⟩
    exact ⟨_, rfl, x, CL, dx, _, _, rfl, hx, LT.cl, LT.nb, lv_b _ _ _ _ _, _, rfl, iteF k⟩
/-! ### arrivals_after, where it answers -/
def AfterR (CL CR : Addr) (T : List (Addr × Str)) (H : Hp) (ss : List LS) (bs : List Addr) (Q : VK) : Prop :=
  ∃ (S : St2) (q : Option Op) (ops : List Op) (ls : List LS) (rs : List Rs) (pre : List LS) (S' : St2) (q' : Option Op), ss.getLast? = some (S, q) ∧ StOk S ∧ bs.length = ops.length ∧ (∀ (i : Nat) (b : Addr) (o : Op), bs[i]? = some b → ops[i]? = some o → H b = some (.tup o.vs)) ∧ OpsOk S ops ∧ Tabs T H ∧ ss.length ≤ 500 ∧
    runO S ops = .inr (ls, rs) ∧ ss ++ ls = pre ++ [(S', q')] ∧ StOk S' ∧ ∀ H' d, ExtN H H' → Tabs T H' → NewA H d → H' d = some (.dK (arrK S')) → Q (.ref d) H'
def spAfter0 (CL CR : Addr) (T : List (Addr × Str)) : Sp := fun vs H Q _ => ∃ (x dx ot : Addr) (ss un : List LS) (bs : List Addr), vs = [.ref x, .ref ot] ∧ H ot = some (.tup (bs.map V.ref)) ∧ bs.length ≤ 100 ∧ LvAt CL CR H x dx ss un ∧ AfterR CL CR T H ss bs Q
abbrev spAfter (CL CR : Addr) (T : List (Addr × Str)) : Sp := fun vs H Q E => ∃ ws rest, vs = ws ++ rest ∧ ws.length = (["self"] : List Str).length ∧ rest.length ≤ sizeLine ∧ ∀ p, H p = Option.none → spAfter0 CL CR T (ws ++ [V.ref p]) (upd H p (.tup rest)) Q E
def nAfter : List Str := ["self", "operations", "states", "results", "road", "cars", "last"]
theorem scAfter : FnScope nAfter ["self", "operations"] (defScope sLiveRoadArrivalsAfter) := ⟨rfl, rfl, rfl, by decide +kernel, rfl, by decide +kernel, by decide +kernel⟩
theorem ok_after {f fN fE fA CL CR CNm CMy CU CO : Addr} {fd dN dE dA : FuncData} {T : List (Addr × Str)} (F : Fun K "arrivals_after" "LiveRoad.arrivals_after" sLiveRoadArrivalsAfter f fd) (LT : LivT K CL)
    (BN : Fm K CL "_check_no_block" "LiveRoad._check_no_block" sLiveRoadCheckNoBlock ["self"] fN dN) (GN : FnOk P w K mg base CX0 1 fN dN ["self"] (spNoBlock CL CR))
    (BE : Fb K mg "_execute" sExecute ["states", "operations"] fE dE) (GE : FnOk P w K mg base (L2.CX P w) 9 fE dE ["states", "operations"] (spExec CR CNm CMy CU CO T))
    (BA : Fb K mg "_arrivals" sArrivals ["road", "cars"] fA dA) (GA : FnOk P w K mg base CX0 7 fA dA ["road", "cars"] (spArrs CR T)) : FnR P w K mg base (L2.CX P w) 10 f (spAfter CL CR T) := by
  obtain ⟨oc, od, kV, doc, pm, an, cdv, ct, osl, rfl, lk, hcd⟩ := F.ex
  refine StX.fn_star lk hcd scAfter StX.cxUp (StX.bind_star1 (p1 := "self") (pv := "operations") (B := fun xs => bindArgs (PySem.W.fnOf "arrivals_after" "LiveRoad.arrivals_after" (defArgs sLiveRoadArrivalsAfter) (defBody sLiveRoadArrivalsAfter) (defScope sLiveRoadArrivalsAfter) .none kV doc pm an cdv ct) ⟨xs, []⟩) (fun _ => rfl) (fun _ _ _ => rfl)) fun A outer s H vs Q E hr h => ?_
  obtain ⟨x, dx, ot, ss, un, bs, rfl, hot, h100, lv, S, q, ops, ls, rs, pre, S', q', hlast, hS, hlen, hops, hok, hT, h500, hrun, hend, hS', k⟩ := h
  have nd := scAfter.nd
  have hr9 : Room 9 (A.deeper (PyProof.Rows.envOfC "LiveRoad.arrivals_after" (defScope sLiveRoadArrivalsAfter) s.heap.objs.size f cdv)) := hr.mono (by decide)
  have hr7 : Room 7 (A.deeper (PyProof.Rows.envOfC "LiveRoad.arrivals_after" (defScope sLiveRoadArrivalsAfter) s.heap.objs.size f cdv)) := hr.mono (by decide)
  have hr1 : Room 1 (A.deeper (PyProof.Rows.envOfC "LiveRoad.arrivals_after" (defScope sLiveRoadArrivalsAfter) s.heap.objs.size f cdv)) := hr.mono (by decide)
  refine ⟨_, pss_cons (ps_expr (pe_meth0 (pv 0) LT.cl BN.at_ GN hr1 BN.bd .nil pass0))
    (pss_cons (ps_asg (pe_call GE hr9 (by rfl) BE.at_ BE.fn.kp BE.bd .nil (passes_call (takes_of rfl rfl rfl rfl) fun _ _ _ _ h => h) (pa_cons (pe_fld (pv 0) rfl) (pa_cons (pv 1) pa_nil))) (pg_tup rfl (pgs_cons (pg_name (i := 2) nd rfl (.inl rfl)) (pgs_cons (pg_name (i := 3) nd rfl (.inl rfl)) pgs_nil))))
    (pss_cons (ps_asg (pe_ix (r := rIxL K) ix_list (pv 2) (pe_un un_neg pe_int) (fun _ _ => rfl)) (pg_tup rfl (pgs_cons (pg_name (i := 4) nd rfl (.inl rfl)) (pgs_cons (pg_name (i := 5) nd rfl (.inl rfl)) (pgs_cons (pg_name (i := 6) nd rfl (.inl rfl)) pgs_nil)))))
    (pss_one (ps_ret (pe_call GA hr7 (by rfl) BA.at_ BA.fn.kp BA.bd .nil pass0 (pa_cons (pv 4) (pa_cons (pv 5) pa_nil))))))), ?_⟩
  obtain ⟨fs, hx0, hno⟩ := lv.ins
  refine ⟨_, rfl, x, dx, _, rfl, hx0, hno _ (by decide +kernel) (by decide +kernel) (by decide +kernel) (by decide +kernel) (by decide +kernel), x, dx, ss, un, rfl, lv, ?_⟩
  obtain ⟨sl, ul, ks, ku, hx, hsl, hul⟩ := lv
  refine ⟨_, rfl, x, CL, dx, _, _, rfl, hx, LT.cl, LT.ns, lv_s _ _ _ _ _, _, rfl, sl, ot, bs, rfl, hot, h100, bs.length, fun i b hi hb => ?_, .inr ⟨rfl, ss, S, q, ops, hsl, hlast, hS, hlen, hops, hok, hT, h500, fun e he => (by rw [hrun] at he; cases he), fun ls2 rs2 hr2 H1 s2 r2 e1 T1 st1 rr1 ns nr nsr t ht => ?_⟩⟩
  · obtain ⟨o, ho⟩ : ∃ o, ops[i]? = some o := ⟨_, List.getElem?_eq_getElem (by omega)⟩
    obtain ⟨nm, rest, h1, h2, _, h4⟩ := o.shape
    exact ⟨nm, rest, by rw [← h1]; exact hops i b o hb ho, h2, h4⟩
  rw [hrun] at hr2
  obtain ⟨rfl, rfl⟩ : ls = ls2 ∧ rs = rs2 := Prod.mk.inj (Sum.inr.inj hr2)
  have s2' := sameNew ht (.tup [V.ref s2, V.ref r2])
  refine ⟨t, _, rfl, SqT.of upd_same, rfl, _, _, rfl, _, _, rfl, rfl, ?_⟩
  have e2 := e1.trans (ExtN.same s2')
  have T2 := T1.ext s2'
  have st2 := st1.ext (ExtN.same s2')
  generalize upd H1 t (.tup [V.ref s2, V.ref r2]) = H2 at e2 T2 st2 ⊢
  rw [hend] at st2
  obtain ⟨us, z, u1, u2, u3, p, a, o, z1, z2, z3, z4⟩ := st2.split
  refine ⟨_, rfl, _, rfl, s2, _, _, .ref z, rfl, rfl, SqL.of u1, atI_lst (m := us.length) (by rw [List.length_append, List.length_map]; rfl) (by rw [List.getElem?_append_right (by rw [List.length_map]; exact Nat.le_refl _), List.length_map, Nat.sub_self]; rfl), ?_⟩
  refine ⟨z, _, rfl, SqT.of z1, rfl, _, _, rfl, _, _, rfl, _, _, rfl, rfl, ?_⟩
  refine ⟨_, rfl, _, rfl, p, a, S', rfl, z2, z3, hS', T2, fun H3 d e3 T3 nd3 hd => k H3 d (e2.trans e3) T3 (NewA.ext e2 nd3) hd⟩
end
end Sl

set_option Elab.async false
set_option linter.all false
set_option maxRecDepth 100000
set_option maxHeartbeats 4000000
namespace Sl
open PySem PySem.Spec L2 OwnR LamX
section
variable {P : Program} {w : World} {K : PySem.W.Frag} {mg : Str → Option Value} {base : Heap}
/-! ### replay, of operations that go well -/
def spReplay (CL CR : Addr) (T : List (Addr × Str)) : Sp := fun vs H Q _ => ∃ (p D : Addr) (secs : List Sec) (bs : List Addr) (ops : List Op) (ls : List LS) (rs : List Rs), vs = [.ref CL, .ref p, .ref D] ∧ RoadAt CR H p secs ∧ SecsOk secs ∧ H D = some (.lst (bs.map V.ref)) ∧ bs.length ≤ 100 ∧ bs.length = ops.length ∧
  (∀ (i : Nat) (b : Addr) (o : Op), bs[i]? = some b → ops[i]? = some o → H b = some (.tup o.vs)) ∧ OpsOk (secs, []) ops ∧ Tabs T H ∧ runO (secs, []) ops = .inr (ls, rs) ∧
  ∀ H' x dx, ExtN H H' → Tabs T H' → LvAt CL CR H' x dx (((secs, []), none) :: ls) [] → Q (.ref x) H'
def nReplay : List Str := ["cls", "road", "operations", "live"]
theorem scReplay : FnScope nReplay ["cls", "road", "operations"] (defScope sLiveRoadReplay) := ⟨rfl, rfl, rfl, by decide +kernel, rfl, by decide +kernel, by decide +kernel⟩
theorem ok_replay {f fI fA CL CR CNm CMy CU CO : Addr} {fd dI : FuncData} {T : List (Addr × Str)} (F : Fun K "replay" "LiveRoad.replay" sLiveRoadReplay f fd) (LT : LivT K CL)
    (MK : Mk K CL fI) (bI : Binds K dI ["self", "road"] []) (GI : FnOk P w K mg base CX0 1 fI dI ["self", "road"] (spLInit CL CR)) (BM : BMeth K CL "apply" fA) (GA : FnR P w K mg base (L2.CX P w) 10 fA (spApply CL CR CNm CMy CU CO T)) : FnOk P w K mg base (L2.CX P w) 11 f fd ["cls", "road", "operations"] (spReplay CL CR T) := by
  refine F.okX scReplay (fun vs H Q E h => ?_) (fun cdv A outer s H vs Q E hr h => ?_)
  · obtain ⟨p, D, secs, bs, ops, ls, rs, rfl, _⟩ := h
    rfl
  · obtain ⟨p, D, secs, bs, ops, ls, rs, rfl, rd, SO, hD, h100, hlen, hops, hok, hT, hrun, k⟩ := h
    have nd := scReplay.nd
    have hr2 : Room 2 (A.deeper (PyProof.Rows.envOfC "LiveRoad.replay" (defScope sLiveRoadReplay) s.heap.objs.size f cdv)) := hr.mono (by decide)
    refine ⟨_, pss_cons (ps_set (i := 3) nd rfl (.inl rfl) (pe_makeV MK (GI.raw bI .nil) hr2 pass0 (pv 0) (pa_cons (pv 1) pa_nil)))
      (pss_cons (ps_expr (pe_methL (pv 3) LT.cl BM GA hr (passes_call (takes_of rfl rfl rfl rfl) fun _ _ _ _ h => h) (pv 2))) (pss_one (ps_ret (pv 3)))), ?_⟩
    refine ⟨_, rfl, rfl, _, rfl, fun x dx hx hdx ne => ?_⟩
    have S3 : Same H (upd (upd H dx (.own x)) x (.ins CL dx [])) := fun b o e => by rw [upd_ne (ne_of_none e hx), upd_ne (ne_of_none e hdx)]; exact e
    refine ⟨H, x, dx, p, secs, rfl, upd_same, S3, hx, rd, SO, fun H1 s1 lv1 => ⟨rfl, ?_⟩⟩
    have T1 := hT.ext s1
    obtain ⟨fs, hx1, hno⟩ := lv1.ins
    refine ⟨_, rfl, x, dx, _, rfl, hx1, hno _ (by decide +kernel) (by decide +kernel) (by decide +kernel) (by decide +kernel) (by decide +kernel), fun q hq => ?_⟩
    have s2 := sameNew hq (.met fA x)
    have s12 := s1.trans s2
    refine ⟨_, rfl, D, bs.map V.ref, rfl, .inr (SqL.of (s12 _ _ hD)), upd_same, ?_⟩
    refine ⟨[.ref x], bs.map V.ref, rfl, rfl, Nat.le_of_lt (small1000 (by rw [List.length_map]; omega)), fun t ht => ?_⟩
    have s3 := sameNew ht (.tup (bs.map V.ref))
    have s13 := s12.trans s3
    have lv3 := lv1.ext (ExtN.same (s2.trans s3))
    have T3 := T1.ext (s2.trans s3)
    have hx3 := s3 _ _ (s2 _ _ hx1)
    refine ⟨x, dx, t, _, _, bs, rfl, upd_same, h100, lv3, bs.length, fun i b hi hb => ?_, .inr ⟨rfl, (secs, []), none, ops, rfl, ⟨SO, ⟨(fun _ z => nomatch z), List.nodup_nil, Nat.zero_le _⟩⟩, hlen, fun i b o e1 e2 => s13 _ _ (hops i b o e1 e2), hok, T3, by show 1 ≤ 500; decide, fun e he => (by rw [hrun] at he; cases he), fun ls2 rs2 hr2 H4 r4 kp4 T4 lv4 _ _ => ?_⟩⟩
    · obtain ⟨o, ho⟩ : ∃ o, ops[i]? = some o := ⟨_, List.getElem?_eq_getElem (by omega)⟩
      obtain ⟨nm, rest, h1, h2, _, h4⟩ := o.shape
      exact ⟨nm, rest, by rw [← h1]; exact s13 _ _ (hops i b o hb ho), h2, h4⟩
    rw [hrun] at hr2
    obtain ⟨rfl, rfl⟩ : ls = ls2 ∧ rs = rs2 := Prod.mk.inj (Sum.inr.inj hr2)
    rw [show (if ops = [] then ([] : List LS) else []) = [] by split <;> rfl] at lv4
    exact ⟨_, rfl, k H4 x dx (fun b o e n => kp4.get (s13 _ _ e) (ne_of_none e hx) n) T4 lv4⟩
end
end Sl

set_option Elab.async false
set_option linter.all false
set_option maxRecDepth 100000
set_option maxHeartbeats 4000000
/-! _law_raised: None, or what the error is. -/
namespace Sl
open PySem PySem.Spec L2 OwnR LamX
structure RsTab (mg : Str → Option Value) (CE c0 c1 c2 c3 c4 c5 : Addr) : Prop where
  gE : mg "RoadError" = some (.ref CE)
  g0 : mg "UnknownCar" = some (.ref c0)
  g1 : mg "InvalidNumber" = some (.ref c1)
  g2 : mg "InvalidName" = some (.ref c2)
  g3 : mg "Contradiction" = some (.ref c3)
  g4 : mg "InvalidOperation" = some (.ref c4)
  g5 : mg "TooManyCars" = some (.ref c5)
  gv : mg "ValueError" = none
/-- C is the j-th of them -/
structure RsJ (K : PySem.W.Frag) (CE c0 c1 c2 c3 c4 c5 C : Addr) (j : Nat) : Prop where
  e : ErrC K C
  x : PySem.W.exmOne K (.ref C) (.ref CE) = some true
  k0 : PySem.W.kitOne K (.ref C) (.ref c0) = some (decide (j = 0))
  k1 : PySem.W.kitOne K (.ref C) (.ref c1) = some (decide (j = 1))
  k2 : PySem.W.kitOne K (.ref C) (.ref c2) = some (decide (j = 2))
  k3 : PySem.W.kitOne K (.ref C) (.ref c3) = some (decide (j = 3))
  k4 : PySem.W.kitOne K (.ref C) (.ref c4) = some (decide (j = 4))
  k5 : PySem.W.kitOne K (.ref C) (.ref c5) = some (decide (j = 5))
  kv : PySem.W.kitOne K (.ref C) (.type "ValueError") = some true
def raiV (j : Nat) (v : V) : List V := match j with
  | 0 => [.str "car", v]
  | 1 => [.str "number"]
  | 2 => [.str "name"]
  | 3 => [.str "contradiction"]
  | 4 => [.str "operation", v]
  | _ => [.str "many"]
def fldV (j : Nat) (d : Option Addr) (H : Hp) (v : V) : Prop := (j ≠ 0 ∧ j ≠ 4) ∨ ∃ dd fs, d = some dd ∧ H dd = some (.xd fs) ∧ fs.lookup (if j = 0 then ("name" : Str) else "index") = some v
def raisedR (K : PySem.W.Frag) (CE c0 c1 c2 c3 c4 c5 : Addr) (cls : Value) (d : Option Addr) (H : Hp) (Q : VK) : Prop :=
  ∃ (C : Addr) (j : Nat) (v : V), cls = .ref C ∧ RsJ K CE c0 c1 c2 c3 c4 c5 C j ∧ j < 6 ∧ DictK H d ∧ fldV j d H v ∧ ∀ H' p, Same H H' → H' p = some (.tup (raiV j v)) → Q (.ref p) H'
def TRai (K : PySem.W.Frag) (CE c0 c1 c2 c3 c4 c5 : Addr) : (XK → Hp → VK → Prop) → Hp → VK → Prop := fun tl H Q => tl (fun cls d H' => raisedR K CE c0 c1 c2 c3 c4 c5 cls d H' Q) H (fun _ H' => Q .non H')
def nRaised : List Str := ["_law_work", "e", "_law_kinds"]
theorem scRaised : FnScope nRaised ["_law_work"] (defScope sRaised) := ⟨rfl, rfl, rfl, by decide +kernel, rfl, by decide +kernel, by decide +kernel⟩
def tIsV (K : PySem.W.Frag) (C a : Addr) (d : Option Addr) (c : V) : TE := tCB (rIsV K C a d) (tCons (tVar 1) (tCons (tC c) tNil))
def tSuite (K : PySem.W.Frag) (c0 c1 c2 c3 c4 c5 C a : Addr) (d : Option Addr) : TS :=
  tSeq (tAsg (tLst (tCons (tIsV K C a d (.ref c0)) (tCons (tIsV K C a d (.ref c1)) (tCons (tIsV K C a d (.ref c2)) tNil)))) (gName 2))
  (tSeq (tAsg (tOp rCat (tVar 2) (tLst (tCons (tIsV K C a d (.ref c3)) (tCons (tIsV K C a d (.ref c4)) (tCons (tIsV K C a d (.ref c5)) tNil))))) (gName 2))
  (tSeq (tIfS (tOr (tTest (tOp rNe (tBM K "list" (rCntV K) (tVar 2) (tCons (tC (.bl true)) tNil)) (tC (.int 1)))) (tNot (tB (tIsV K C a d (.ty "ValueError"))))) (tRet (tTup (tCons (tC (.str "other")) tNil))) tNext)
  (tSeq (tIfS (tB (tOp (rIxL K) (tVar 2) (tC (.int 0)))) (tRet (tTup (tCons (tC (.str "car")) (tCons (tXf a (.ref C) d C "name" (tVar 1)) tNil)))) tNext)
  (tSeq (tIfS (tB (tOp (rIxL K) (tVar 2) (tC (.int 4)))) (tRet (tTup (tCons (tC (.str "operation")) (tCons (tXf a (.ref C) d C "index" (tVar 1)) tNil)))) tNext)
  (tRet (tTup (tCons (tOp (rIxL K) (tLst (tCons (tC (.str "car")) (tCons (tC (.str "number")) (tCons (tC (.str "name")) (tCons (tC (.str "contradiction")) (tCons (tC (.str "operation")) (tCons (tC (.str "many")) tNil))))))) (tBM K "list" (rIndex K) (tVar 2) (tCons (tC (.bl true)) tNil))) tNil)))))))
theorem pss_ex {X : Cx} {l : List Stmt} {α : Type} {t : α → TS} {p : α → Prop} (h : ∀ a, p a → PSs X l (t a)) : PSs X l (fun D σ H => ∃ a, p a ∧ t a D σ H) := ⟨fun pins s σ H D I ⟨a, pa, q⟩ => (h a pa).run pins s σ H D I q⟩
theorem raised_gives {P : Program} {w : World} {K : PySem.W.Frag} {mg : Str → Option Value} {base : Heap} {A : Around} {stack : List Env} {g : Addr} {cdg : Value} {CE c0 c1 c2 c3 c4 c5 : Addr} (M : Mg mg) (W : RsTab mg CE c0 c1 c2 c3 c4 c5) :
    GivesV P w K mg base A stack nRaised "_law_raised" (defScope sRaised) g cdg (defBody sRaised) "_law_work" (TRai K CE c0 c1 c2 c3 c4 c5) := by
  intro f s H Q Held tl act hH h
  have nd := scRaised.nd
  refine ⟨_, pss_cons (ps_try_as (X := (cxOf L2.CX0 P w K mg base nRaised "_law_raised" (defScope sRaised) g cdg A stack s H L2.E0).nox) (c := .ref CE) (i := 1)
      (tb := fun W D σ H => ∃ Ech : XK, (∀ cls d σ' H', σ'.length = nRaised.length → Ech cls d H' → W cls d σ' H') ∧ σ[0]? = some (some (.ref f)) ∧ Held H ∧ tl Ech H (fun _ H1 => D.nx σ H1))
      (ts := fun a cls d D σ H => ∃ q : Addr × Nat, (cls = .ref q.1 ∧ RsJ K CE c0 c1 c2 c3 c4 c5 q.1 q.2) ∧ tSuite K c0 c1 c2 c3 c4 c5 q.1 a d D σ H)
      rfl rfl nd rfl rfl ⟨rfl, by decide, .inl W.gE⟩ LamX.takes0 (fun W pn xe tk _ => ⟨fun pins s' σ H' D I h' => ?_⟩) (fun a oe cls d pn hz hf => ?_)) (pss_one (ps_ret pe_non)), ?_⟩
  · obtain ⟨Ech, hW, h1, h2, h3⟩ := h'
    exact (pss_one (ps_expr (act W pn xe Ech _ _ tk hW))).run pins s' σ H' D I ⟨h1, h2, h3⟩
  · refine pss_ex (p := fun q : Addr × Nat => cls = .ref q.1 ∧ RsJ K CE c0 c1 c2 c3 c4 c5 q.1 q.2) (t := fun q => tSuite K c0 c1 c2 c3 c4 c5 q.1 a d) fun q hq => ?_
    have hz2 : Zc (.ref q.1) d oe := by rw [← hq.1]; exact hz
    have J := hq.2
    exact (pss_cons (ps_set (i := 2) nd rfl (.inl rfl) (pe_lst (pa_cons (pe_callB (call_isV J.e hz2 hf) (by rfl) M.isinstance boot_isinstance (pa_cons (pv 1) (pa_cons (pe_glob (v := .ref c0) (by rfl) W.g0 rfl) pa_nil))) (pa_cons (pe_callB (call_isV J.e hz2 hf) (by rfl) M.isinstance boot_isinstance (pa_cons (pv 1) (pa_cons (pe_glob (v := .ref c1) (by rfl) W.g1 rfl) pa_nil))) (pa_cons (pe_callB (call_isV J.e hz2 hf) (by rfl) M.isinstance boot_isinstance (pa_cons (pv 1) (pa_cons (pe_glob (v := .ref c2) (by rfl) W.g2 rfl) pa_nil))) pa_nil))))) (pss_cons (ps_set (i := 2) nd rfl (.inl rfl) (pe_op op_cat (pv 2) (pe_lst (pa_cons (pe_callB (call_isV J.e hz2 hf) (by rfl) M.isinstance boot_isinstance (pa_cons (pv 1) (pa_cons (pe_glob (v := .ref c3) (by rfl) W.g3 rfl) pa_nil))) (pa_cons (pe_callB (call_isV J.e hz2 hf) (by rfl) M.isinstance boot_isinstance (pa_cons (pv 1) (pa_cons (pe_glob (v := .ref c4) (by rfl) W.g4 rfl) pa_nil))) (pa_cons (pe_callB (call_isV J.e hz2 hf) (by rfl) M.isinstance boot_isinstance (pa_cons (pv 1) (pa_cons (pe_glob (v := .ref c5) (by rfl) W.g5 rfl) pa_nil))) pa_nil)))))) (pss_cons (ps_if (PW.pt (pw_or (pt_cmpR op_ne (pe_bm PySem.F.plainAttrs_list PySem.F.slot_list_count PySem.F.type_list_count mt_countV (pv 2) (pa_cons pe_bl pa_nil)) pe_int (nomark _)) (pw_or1 (pt_not (pt_val (pe_callB (call_isV J.e hz2 hf) (by rfl) M.isinstance boot_isinstance (pa_cons (pv 1) (pa_cons (pe_bltn (v := .ty "ValueError") (by rfl) W.gv PyProof.Rows.Boot.«ValueError» rfl) pa_nil)))))))) (pss_one (ps_ret (pe_tup (pa_cons pe_str pa_nil)))) pss_nil) (pss_cons (ps_if (pt_val (pe_ix ix_list (pv 2) pe_int (fun _ _ => rfl))) (pss_one (ps_ret (pe_tup (pa_cons pe_str (pa_cons (pe_xf J.e.xf J.e.nm hz2 hf (pv 1)) pa_nil))))) pss_nil) (pss_cons (ps_if (pt_val (pe_ix ix_list (pv 2) pe_int (fun _ _ => rfl))) (pss_one (ps_ret (pe_tup (pa_cons pe_str (pa_cons (pe_xf J.e.xf J.e.ix hz2 hf (pv 1)) pa_nil))))) pss_nil) (pss_one (ps_ret (pe_tup (pa_cons (pe_ix ix_list (pe_lst (pa_cons pe_str (pa_cons pe_str (pa_cons pe_str (pa_cons pe_str (pa_cons pe_str (pa_cons pe_str pa_nil))))))) (pe_bm PySem.F.plainAttrs_list PySem.F.slot_list_index PySem.F.type_list_index mt_index (pv 2) (pa_cons pe_bl pa_nil)) (fun _ _ => rfl)) pa_nil)))))))))
  · refine ⟨fun cls d H' => raisedR K CE c0 c1 c2 c3 c4 c5 cls d H' Q, ?_, rfl, hH, h⟩
    rintro cls d σ' H1 hl ⟨C, j, v, rfl, J, hj, hd, hf, hQ⟩
    obtain ⟨x0, x1, x2, rfl⟩ : ∃ x0 x1 x2, σ' = [x0, x1, x2] := by
      match σ', hl with
      | [x0, x1, x2], _ => exact ⟨x0, x1, x2, rfl⟩
    refine ⟨true, J.x, fun _ a ha => ⟨(C, j), ⟨rfl, J⟩, ?_⟩, fun z => nomatch z⟩
    show tSuite K c0 c1 c2 c3 c4 c5 C a d _ _ H1
    have dk : ∀ {H2 : Hp}, Same H1 H2 → DictK H2 d := fun e => hd.ext (ExtN.same e)
    have isv : ∀ {σ : L2.St} {H2 : Hp} {c : V} {cv : Value} {b : Bool} {Q2 : VK}, σ[1]? = some (some (.ref a)) → Same H1 H2 → (∀ u, RelV c u → u = cv) → PySem.W.kitOne K (.ref C) cv = some b → Q2 (.bl b) H2 → tIsV K C a d c σ H2 Q2 :=
      fun hσ e hc hk hq => ⟨_, hσ, _, _, _, rfl, hc, hk, dk e, hq⟩
    unfold tSuite
    match j, hj with
    | 0, _ =>
      refine isv rfl (Same.refl _) (fun u e => e) J.k0 (isv rfl (Same.refl _) (fun u e => e) J.k1 (isv rfl (Same.refl _) (fun u e => e) J.k2 ⟨by show 3 ≤ sizeLine; decide, fun p1 hp1 => ?_⟩))
      have s1 := sameNew hp1 (.lst [.bl true, .bl false, .bl false])
      refine ⟨_, rfl, isv rfl s1 (fun u e => e) J.k3 (isv rfl s1 (fun u e => e) J.k4 (isv rfl s1 (fun u e => e) J.k5 ⟨by show 3 ≤ sizeLine; decide, fun p2 hp2 => ?_⟩))⟩
      have s2 := s1.trans (sameNew hp2 (.lst [.bl false, .bl false, .bl false]))
      refine ⟨p1, p2, [.bl true, .bl false, .bl false], [.bl false, .bl false, .bl false], rfl, rfl, sameNew hp2 _ _ _ upd_same, upd_same, by show 6 ≤ sizeLine; decide, fun p3 hp3 => ?_⟩
      have s3 := s2.trans (sameNew hp3 (.lst [.bl true, .bl false, .bl false, .bl false, .bl false, .bl false]))
      have h3 : upd (upd (upd H1 p1 (.lst [.bl true, .bl false, .bl false])) p2 (.lst [.bl false, .bl false, .bl false])) p3 (.lst [.bl true, .bl false, .bl false, .bl false, .bl false, .bl false]) p3 = some (.lst [.bl true, .bl false, .bl false, .bl false, .bl false, .bl false]) := upd_same
      refine ⟨_, rfl, .inl ⟨rfl, _, SqL.of h3⟩, p3, [.bl true, .bl false, .bl false, .bl false, .bl false, .bl false], .bl true, rfl, rfl, SqL.of h3, rfl, rfl, rfl, _, rfl, iteF ?_⟩
      refine isv rfl s3 (fun u e => e) J.kv ⟨true, rfl, iteF ?_⟩
      refine ⟨_, rfl, p3, _, ((0 : Nat) : Int), .bl true, rfl, rfl, SqL.of h3, atI_nat rfl, _, rfl, iteT ?_⟩
      rcases hf with hf | ⟨dd, fs, rfl, hdd, hfl⟩
      · exact absurd rfl hf.1
      refine ⟨_, rfl, rfl, rfl, dd, fs, v, rfl, s3 _ _ hdd, hfl, by show 2 ≤ sizeLine; decide, fun p hp => ?_⟩
      exact hQ _ p (s3.trans (sameNew hp _)) upd_same
    | 1, _ =>
      refine isv rfl (Same.refl _) (fun u e => e) J.k0 (isv rfl (Same.refl _) (fun u e => e) J.k1 (isv rfl (Same.refl _) (fun u e => e) J.k2 ⟨by show 3 ≤ sizeLine; decide, fun p1 hp1 => ?_⟩))
      have s1 := sameNew hp1 (.lst [.bl false, .bl true, .bl false])
      refine ⟨_, rfl, isv rfl s1 (fun u e => e) J.k3 (isv rfl s1 (fun u e => e) J.k4 (isv rfl s1 (fun u e => e) J.k5 ⟨by show 3 ≤ sizeLine; decide, fun p2 hp2 => ?_⟩))⟩
      have s2 := s1.trans (sameNew hp2 (.lst [.bl false, .bl false, .bl false]))
      refine ⟨p1, p2, [.bl false, .bl true, .bl false], [.bl false, .bl false, .bl false], rfl, rfl, sameNew hp2 _ _ _ upd_same, upd_same, by show 6 ≤ sizeLine; decide, fun p3 hp3 => ?_⟩
      have s3 := s2.trans (sameNew hp3 (.lst [.bl false, .bl true, .bl false, .bl false, .bl false, .bl false]))
      have h3 : upd (upd (upd H1 p1 (.lst [.bl false, .bl true, .bl false])) p2 (.lst [.bl false, .bl false, .bl false])) p3 (.lst [.bl false, .bl true, .bl false, .bl false, .bl false, .bl false]) p3 = some (.lst [.bl false, .bl true, .bl false, .bl false, .bl false, .bl false]) := upd_same
      refine ⟨_, rfl, .inl ⟨rfl, _, SqL.of h3⟩, p3, [.bl false, .bl true, .bl false, .bl false, .bl false, .bl false], .bl true, rfl, rfl, SqL.of h3, rfl, rfl, rfl, _, rfl, iteF ?_⟩
      refine isv rfl s3 (fun u e => e) J.kv ⟨true, rfl, iteF ?_⟩
      refine ⟨_, rfl, p3, _, ((0 : Nat) : Int), .bl false, rfl, rfl, SqL.of h3, atI_nat rfl, _, rfl, iteF ?_⟩
      refine ⟨_, rfl, p3, _, ((4 : Nat) : Int), .bl false, rfl, rfl, SqL.of h3, atI_nat rfl, _, rfl, iteF ?_⟩
      refine ⟨by show 6 ≤ sizeLine; decide, fun p4 hp4 => ?_⟩
      have q4 := sameNew hp4 (.lst [.str "car", .str "number", .str "name", .str "contradiction", .str "operation", .str "many"])
      have s4 := s3.trans q4
      have h4 := q4 _ _ h3
      refine ⟨_, rfl, .inl ⟨rfl, _, SqL.of h4⟩, p3, [.bl false, .bl true, .bl false, .bl false, .bl false, .bl false], .bl true, 1, .bl true, rfl, rfl, SqL.of h4, rfl, rfl, rfl, rfl, fun m z' hm e => ?_, ?_⟩
      · match m, hm, e with
        | 0, _, e => cases e; rfl
      refine ⟨p4, _, ((1 : Nat) : Int), .str "number", rfl, rfl, SqL.of upd_same, atI_nat rfl, by show 1 ≤ sizeLine; decide, fun p hp => ?_⟩
      exact hQ _ p (s4.trans (sameNew hp _)) upd_same
    | 2, _ =>
      refine isv rfl (Same.refl _) (fun u e => e) J.k0 (isv rfl (Same.refl _) (fun u e => e) J.k1 (isv rfl (Same.refl _) (fun u e => e) J.k2 ⟨by show 3 ≤ sizeLine; decide, fun p1 hp1 => ?_⟩))
      have s1 := sameNew hp1 (.lst [.bl false, .bl false, .bl true])
      refine ⟨_, rfl, isv rfl s1 (fun u e => e) J.k3 (isv rfl s1 (fun u e => e) J.k4 (isv rfl s1 (fun u e => e) J.k5 ⟨by show 3 ≤ sizeLine; decide, fun p2 hp2 => ?_⟩))⟩
      have s2 := s1.trans (sameNew hp2 (.lst [.bl false, .bl false, .bl false]))
      refine ⟨p1, p2, [.bl false, .bl false, .bl true], [.bl false, .bl false, .bl false], rfl, rfl, sameNew hp2 _ _ _ upd_same, upd_same, by show 6 ≤ sizeLine; decide, fun p3 hp3 => ?_⟩
      have s3 := s2.trans (sameNew hp3 (.lst [.bl false, .bl false, .bl true, .bl false, .bl false, .bl false]))
      have h3 : upd (upd (upd H1 p1 (.lst [.bl false, .bl false, .bl true])) p2 (.lst [.bl false, .bl false, .bl false])) p3 (.lst [.bl false, .bl false, .bl true, .bl false, .bl false, .bl false]) p3 = some (.lst [.bl false, .bl false, .bl true, .bl false, .bl false, .bl false]) := upd_same
      refine ⟨_, rfl, .inl ⟨rfl, _, SqL.of h3⟩, p3, [.bl false, .bl false, .bl true, .bl false, .bl false, .bl false], .bl true, rfl, rfl, SqL.of h3, rfl, rfl, rfl, _, rfl, iteF ?_⟩
      refine isv rfl s3 (fun u e => e) J.kv ⟨true, rfl, iteF ?_⟩
      refine ⟨_, rfl, p3, _, ((0 : Nat) : Int), .bl false, rfl, rfl, SqL.of h3, atI_nat rfl, _, rfl, iteF ?_⟩
      refine ⟨_, rfl, p3, _, ((4 : Nat) : Int), .bl false, rfl, rfl, SqL.of h3, atI_nat rfl, _, rfl, iteF ?_⟩
      refine ⟨by show 6 ≤ sizeLine; decide, fun p4 hp4 => ?_⟩
      have q4 := sameNew hp4 (.lst [.str "car", .str "number", .str "name", .str "contradiction", .str "operation", .str "many"])
      have s4 := s3.trans q4
      have h4 := q4 _ _ h3
      refine ⟨_, rfl, .inl ⟨rfl, _, SqL.of h4⟩, p3, [.bl false, .bl false, .bl true, .bl false, .bl false, .bl false], .bl true, 2, .bl true, rfl, rfl, SqL.of h4, rfl, rfl, rfl, rfl, fun m z' hm e => ?_, ?_⟩
      · match m, hm, e with
        | 0, _, e => cases e; rfl
        | 1, _, e => cases e; rfl
      refine ⟨p4, _, ((2 : Nat) : Int), .str "name", rfl, rfl, SqL.of upd_same, atI_nat rfl, by show 1 ≤ sizeLine; decide, fun p hp => ?_⟩
      exact hQ _ p (s4.trans (sameNew hp _)) upd_same
    | 3, _ =>
      refine isv rfl (Same.refl _) (fun u e => e) J.k0 (isv rfl (Same.refl _) (fun u e => e) J.k1 (isv rfl (Same.refl _) (fun u e => e) J.k2 ⟨by show 3 ≤ sizeLine; decide, fun p1 hp1 => ?_⟩))
      have s1 := sameNew hp1 (.lst [.bl false, .bl false, .bl false])
      refine ⟨_, rfl, isv rfl s1 (fun u e => e) J.k3 (isv rfl s1 (fun u e => e) J.k4 (isv rfl s1 (fun u e => e) J.k5 ⟨by show 3 ≤ sizeLine; decide, fun p2 hp2 => ?_⟩))⟩
      have s2 := s1.trans (sameNew hp2 (.lst [.bl true, .bl false, .bl false]))
      refine ⟨p1, p2, [.bl false, .bl false, .bl false], [.bl true, .bl false, .bl false], rfl, rfl, sameNew hp2 _ _ _ upd_same, upd_same, by show 6 ≤ sizeLine; decide, fun p3 hp3 => ?_⟩
      have s3 := s2.trans (sameNew hp3 (.lst [.bl false, .bl false, .bl false, .bl true, .bl false, .bl false]))
      have h3 : upd (upd (upd H1 p1 (.lst [.bl false, .bl false, .bl false])) p2 (.lst [.bl true, .bl false, .bl false])) p3 (.lst [.bl false, .bl false, .bl false, .bl true, .bl false, .bl false]) p3 = some (.lst [.bl false, .bl false, .bl false, .bl true, .bl false, .bl false]) := upd_same
      refine ⟨_, rfl, .inl ⟨rfl, _, SqL.of h3⟩, p3, [.bl false, .bl false, .bl false, .bl true, .bl false, .bl false], .bl true, rfl, rfl, SqL.of h3, rfl, rfl, rfl, _, rfl, iteF ?_⟩
      refine isv rfl s3 (fun u e => e) J.kv ⟨true, rfl, iteF ?_⟩
      refine ⟨_, rfl, p3, _, ((0 : Nat) : Int), .bl false, rfl, rfl, SqL.of h3, atI_nat rfl, _, rfl, iteF ?_⟩
      refine ⟨_, rfl, p3, _, ((4 : Nat) : Int), .bl false, rfl, rfl, SqL.of h3, atI_nat rfl, _, rfl, iteF ?_⟩
      refine ⟨by show 6 ≤ sizeLine; decide, fun p4 hp4 => ?_⟩
      have q4 := sameNew hp4 (.lst [.str "car", .str "number", .str "name", .str "contradiction", .str "operation", .str "many"])
      have s4 := s3.trans q4
      have h4 := q4 _ _ h3
      refine ⟨_, rfl, .inl ⟨rfl, _, SqL.of h4⟩, p3, [.bl false, .bl false, .bl false, .bl true, .bl false, .bl false], .bl true, 3, .bl true, rfl, rfl, SqL.of h4, rfl, rfl, rfl, rfl, fun m z' hm e => ?_, ?_⟩
      · match m, hm, e with
        | 0, _, e => cases e; rfl
        | 1, _, e => cases e; rfl
        | 2, _, e => cases e; rfl
      refine ⟨p4, _, ((3 : Nat) : Int), .str "contradiction", rfl, rfl, SqL.of upd_same, atI_nat rfl, by show 1 ≤ sizeLine; decide, fun p hp => ?_⟩
      exact hQ _ p (s4.trans (sameNew hp _)) upd_same
    | 4, _ =>
      refine isv rfl (Same.refl _) (fun u e => e) J.k0 (isv rfl (Same.refl _) (fun u e => e) J.k1 (isv rfl (Same.refl _) (fun u e => e) J.k2 ⟨by show 3 ≤ sizeLine; decide, fun p1 hp1 => ?_⟩))
      have s1 := sameNew hp1 (.lst [.bl false, .bl false, .bl false])
      refine ⟨_, rfl, isv rfl s1 (fun u e => e) J.k3 (isv rfl s1 (fun u e => e) J.k4 (isv rfl s1 (fun u e => e) J.k5 ⟨by show 3 ≤ sizeLine; decide, fun p2 hp2 => ?_⟩))⟩
      have s2 := s1.trans (sameNew hp2 (.lst [.bl false, .bl true, .bl false]))
      refine ⟨p1, p2, [.bl false, .bl false, .bl false], [.bl false, .bl true, .bl false], rfl, rfl, sameNew hp2 _ _ _ upd_same, upd_same, by show 6 ≤ sizeLine; decide, fun p3 hp3 => ?_⟩
      have s3 := s2.trans (sameNew hp3 (.lst [.bl false, .bl false, .bl false, .bl false, .bl true, .bl false]))
      have h3 : upd (upd (upd H1 p1 (.lst [.bl false, .bl false, .bl false])) p2 (.lst [.bl false, .bl true, .bl false])) p3 (.lst [.bl false, .bl false, .bl false, .bl false, .bl true, .bl false]) p3 = some (.lst [.bl false, .bl false, .bl false, .bl false, .bl true, .bl false]) := upd_same
      refine ⟨_, rfl, .inl ⟨rfl, _, SqL.of h3⟩, p3, [.bl false, .bl false, .bl false, .bl false, .bl true, .bl false], .bl true, rfl, rfl, SqL.of h3, rfl, rfl, rfl, _, rfl, iteF ?_⟩
      refine isv rfl s3 (fun u e => e) J.kv ⟨true, rfl, iteF ?_⟩
      refine ⟨_, rfl, p3, _, ((0 : Nat) : Int), .bl false, rfl, rfl, SqL.of h3, atI_nat rfl, _, rfl, iteF ?_⟩
      refine ⟨_, rfl, p3, _, ((4 : Nat) : Int), .bl true, rfl, rfl, SqL.of h3, atI_nat rfl, _, rfl, iteT ?_⟩
      rcases hf with hf | ⟨dd, fs, rfl, hdd, hfl⟩
      · exact absurd rfl hf.2
      refine ⟨_, rfl, rfl, rfl, dd, fs, v, rfl, s3 _ _ hdd, hfl, by show 2 ≤ sizeLine; decide, fun p hp => ?_⟩
      exact hQ _ p (s3.trans (sameNew hp _)) upd_same
    | 5, _ =>
      refine isv rfl (Same.refl _) (fun u e => e) J.k0 (isv rfl (Same.refl _) (fun u e => e) J.k1 (isv rfl (Same.refl _) (fun u e => e) J.k2 ⟨by show 3 ≤ sizeLine; decide, fun p1 hp1 => ?_⟩))
      have s1 := sameNew hp1 (.lst [.bl false, .bl false, .bl false])
      refine ⟨_, rfl, isv rfl s1 (fun u e => e) J.k3 (isv rfl s1 (fun u e => e) J.k4 (isv rfl s1 (fun u e => e) J.k5 ⟨by show 3 ≤ sizeLine; decide, fun p2 hp2 => ?_⟩))⟩
      have s2 := s1.trans (sameNew hp2 (.lst [.bl false, .bl false, .bl true]))
      refine ⟨p1, p2, [.bl false, .bl false, .bl false], [.bl false, .bl false, .bl true], rfl, rfl, sameNew hp2 _ _ _ upd_same, upd_same, by show 6 ≤ sizeLine; decide, fun p3 hp3 => ?_⟩
      have s3 := s2.trans (sameNew hp3 (.lst [.bl false, .bl false, .bl false, .bl false, .bl false, .bl true]))
      have h3 : upd (upd (upd H1 p1 (.lst [.bl false, .bl false, .bl false])) p2 (.lst [.bl false, .bl false, .bl true])) p3 (.lst [.bl false, .bl false, .bl false, .bl false, .bl false, .bl true]) p3 = some (.lst [.bl false, .bl false, .bl false, .bl false, .bl false, .bl true]) := upd_same
      refine ⟨_, rfl, .inl ⟨rfl, _, SqL.of h3⟩, p3, [.bl false, .bl false, .bl false, .bl false, .bl false, .bl true], .bl true, rfl, rfl, SqL.of h3, rfl, rfl, rfl, _, rfl, iteF ?_⟩
      refine isv rfl s3 (fun u e => e) J.kv ⟨true, rfl, iteF ?_⟩
      refine ⟨_, rfl, p3, _, ((0 : Nat) : Int), .bl false, rfl, rfl, SqL.of h3, atI_nat rfl, _, rfl, iteF ?_⟩
      refine ⟨_, rfl, p3, _, ((4 : Nat) : Int), .bl false, rfl, rfl, SqL.of h3, atI_nat rfl, _, rfl, iteF ?_⟩
      refine ⟨by show 6 ≤ sizeLine; decide, fun p4 hp4 => ?_⟩
      have q4 := sameNew hp4 (.lst [.str "car", .str "number", .str "name", .str "contradiction", .str "operation", .str "many"])
      have s4 := s3.trans q4
      have h4 := q4 _ _ h3
      refine ⟨_, rfl, .inl ⟨rfl, _, SqL.of h4⟩, p3, [.bl false, .bl false, .bl false, .bl false, .bl false, .bl true], .bl true, 5, .bl true, rfl, rfl, SqL.of h4, rfl, rfl, rfl, rfl, fun m z' hm e => ?_, ?_⟩
      · match m, hm, e with
        | 0, _, e => cases e; rfl
        | 1, _, e => cases e; rfl
        | 2, _, e => cases e; rfl
        | 3, _, e => cases e; rfl
        | 4, _, e => cases e; rfl
      refine ⟨p4, _, ((5 : Nat) : Int), .str "many", rfl, rfl, SqL.of upd_same, atI_nat rfl, by show 1 ≤ sizeLine; decide, fun p hp => ?_⟩
      exact hQ _ p (s4.trans (sameNew hp _)) upd_same
end Sl

set_option Elab.async false
set_option linter.all false
set_option maxRecDepth 100000
set_option maxHeartbeats 4000000
namespace Sl
open PySem PySem.Spec L2 OwnR LamX
/-! ### what a draw keeps, what a told one keeps -/
section
variable {K : PySem.W.Frag} {H H' : Hp} {r sc : Addr} {ns : List Int}
theorem RowAt.neR (R : RowAt K H r sc ns) {a : Addr} {l : List Addr} (h : H a = some (.lst (l.map V.ref))) : a ≠ r := fun z => by
  obtain ⟨x, b, c, e⟩ := R.at_
  rw [z, e] at h
  cases l with
  | nil => cases h
  | cons u q =>
    cases q with
    | nil => cases h
    | cons v w => cases h
theorem RowAt.neI (R : RowAt K H r sc ns) {a : Addr} {l : List Int} (h : H a = some (.lst (l.map V.int))) : a ≠ r := fun z => by
  obtain ⟨x, b, c, e⟩ := R.at_
  rw [z, e] at h
  cases l with
  | nil => cases h
  | cons u q => cases h
theorem RowAt.neS (R : RowAt K H r sc ns) {a : Addr} {l : List Str} (h : H a = some (.lst (l.map V.str))) : a ≠ r := fun z => by
  obtain ⟨x, b, c, e⟩ := R.at_
  rw [z, e] at h
  cases l with
  | nil => cases h
  | cons u q => cases h
theorem RowAt.neO (R : RowAt K H r sc ns) {a : Addr} {o : HO} (h : H a = some o) (n : ∀ xs, o ≠ .lst xs) : a ≠ r := by
  obtain ⟨x, b, c, e⟩ := R.at_
  exact ne_of h e (n _)
/-- what neither a draw nor a told one touches -/
inductive Nice : HO → Prop
  | tup (xs : List V) : Nice (.tup xs)
  | dk (kv : List (Key × V)) : Nice (.dK kv)
  | refs (l : List Addr) : Nice (.lst (l.map V.ref))
  | nums (l : List Int) : Nice (.lst (l.map V.int))
  | txts (l : List Str) : Nice (.lst (l.map V.str))
def NK (H H' : Hp) : Prop := ∀ b o, H b = some o → Nice o → H' b = some o
/-- all but objects and tables stays -/
def Kg (H H' : Hp) : Prop := ∀ b o, H b = some o → (∀ C d fs, o ≠ .ins C d fs) → (∀ ps, o ≠ .tbl ps) → H' b = some o
theorem Kg.nk (k : Kg H H') : NK H H' := fun b o h n => by
  cases n <;> exact k b _ h (fun _ _ _ z => nomatch z) (fun _ z => nomatch z)
theorem Kg.of (e : ExtN H H') : Kg H H' := fun b o h _ n => e b o h n
theorem Kg.same (e : Same H H') : Kg H H' := fun b o h _ _ => e b o h
theorem Kg.kp {p CH dx : Addr} {fs : List (Str × V)} (hp : H p = some (.ins CH dx fs)) (k : KpP p H H') : Kg H H' := fun b o h n t => k.get h (ne_of h hp (n _ _ _)) t
theorem NK.keep (R : RowAt K H r sc ns) (k : KeepB r H H') : NK H H' := fun b o h n => by
  cases n with
  | tup xs => exact k _ _ h (R.neO h fun _ z => nomatch z)
  | dk kv => exact k _ _ h (R.neO h fun _ z => nomatch z)
  | refs l => exact k _ _ h (R.neR h)
  | nums l => exact k _ _ h (R.neI h)
  | txts l => exact k _ _ h (R.neS h)
theorem RowAt.kg (R : RowAt K H r sc ns) (k : Kg H H') : RowAt K H' r sc ns := by
  obtain ⟨a, b, c, e⟩ := R.at_
  refine ⟨⟨a, b, c, k _ _ e (fun _ _ _ z => nomatch z) (fun _ z => nomatch z)⟩, fun H2 k2 => ?_⟩
  have mr : ∀ {x : Addr} {o : HO}, mask r H x = some o → x ≠ r ∧ H x = some o := fun h => mask_some h
  rcases R.scr (mask r H) (fun x o h n => by rw [mask_ne n]; exact h) with (h | ⟨o, h⟩) | h
  · exact .inl (.inl (k2 _ _ (k _ _ (mr h).2 (fun _ _ _ z => nomatch z) (fun _ z => nomatch z)) (mr h).1))
  · exact .inl (.inr ⟨o, k2 _ _ (k _ _ (mr h).2 (fun _ _ _ z => nomatch z) (fun _ z => nomatch z)) (mr h).1⟩)
  · exact .inr h
theorem RunsAt.nk {a : Addr} {secs : List Sec} (h : RunsAt H a secs) (k : NK H H') : RunsAt H' a secs :=
  let ⟨ts, h1, h2, h3⟩ := h; ⟨ts, k _ _ h1 (.refs _), h2, fun i t s e1 e2 => k _ _ (h3 i t s e1 e2) (.tup _)⟩
theorem CarsAt.nk {a : Addr} {cars : List Car} (h : CarsAt H a cars) (k : NK H H') : CarsAt H' a cars :=
  let ⟨ts, h1, h2, h3⟩ := h; ⟨ts, k _ _ h1 (.tup _), h2, fun i t s e1 e2 => k _ _ (h3 i t s e1 e2) (.tup _)⟩
theorem TupsAt.nk {a : Addr} {vss : List (List V)} (h : TupsAt H a vss) (k : NK H H') : TupsAt H' a vss :=
  let ⟨ts, h1, h2, h3⟩ := h; ⟨ts, k _ _ h1 (.refs _), h2, fun i t s e1 e2 => k _ _ (h3 i t s e1 e2) (.tup _)⟩
theorem TksAt.nk {a : Addr} {secs : List Sec} {cars : List Car} (h : TksAt H a secs cars) (k : NK H H') : TksAt H' a secs cars :=
  let ⟨kt, a, e, b⟩ := h; ⟨kt, k _ _ a (.dk _), e, fun c hc => let ⟨d, x, y⟩ := b c hc; ⟨d, x, k _ _ y (.nums _)⟩⟩
theorem OrdsAt.nk {a : Addr} {secs : List Sec} {cars : List Car} (h : OrdsAt H a secs cars) (k : NK H H') : OrdsAt H' a secs cars :=
  let ⟨os, a, b, c⟩ := h; ⟨os, k _ _ a (.refs _), b, fun q d h => k _ _ (c q d h) (.txts _)⟩
theorem Tabs.row {T : List (Addr × Str)} (t : Tabs T H) (R : RowAt K H r sc ns) (k : KeepB r H H') : Tabs T H' := Tabs.keepL t fun b o h n => k _ _ h (R.neO h n)
/-- what stands, but for the row that a draw changes -/
theorem StAt.keep {CR t : Addr} {s : LS} (h : StAt CR H t s) (R : RowAt K H r sc ns) (k : KeepB r H H') : StAt CR H' t s := by
  have ko : ∀ (a : Addr) (o : HO), H a = some o → (∀ xs, o ≠ .lst xs) → H' a = some o := fun a o h n => k _ _ h (R.neO h n)
  exact h.nl fun b o h n _ => ko b o h n
theorem StsAt.keep {CR l : Addr} {ss : List LS} (h : StsAt CR H l ss) (R : RowAt K H r sc ns) (k : KeepB r H H') : StsAt CR H' l ss := by
  obtain ⟨ts, h1, h2, h3⟩ := h
  exact ⟨ts, k _ _ h1 (R.neR h1), h2, fun i t s e1 e2 => (h3 i t s e1 e2).keep R k⟩
theorem LvAt.keep {CL CR x dx : Addr} {ss un : List LS} (h : LvAt CL CR H x dx ss un) (R : RowAt K H r sc ns) (k : KeepB r H H') : LvAt CL CR H' x dx ss un := by
  obtain ⟨sl, ul, ks, ku, h1, h2, h3⟩ := h
  exact ⟨sl, ul, ks, ku, k _ _ h1 (R.neO h1 fun _ z => nomatch z), h2.keep R k, h3.keep R k⟩
theorem PairsAt.nk {d : Addr} {ns : List Str} {g : Str → Int × Int} (h : PairsAt H d ns g) (k : NK H H') : PairsAt H' d ns g := by
  obtain ⟨ts, h1, h2, h3⟩ := h
  exact ⟨ts, k _ _ h1 (.dk _), h2, fun i t m e1 e2 => k _ _ (h3 i t m e1 e2) (.tup _)⟩
/-- what the law holds of a road and its cars -/
def HAt (H : Hp) (h : Addr) (S : St2) : Prop := ∃ l a : Addr, H h = some (.tup [.ref l, .ref a]) ∧ RunsAt H l S.1 ∧ CarsAt H a S.2
theorem HAt.nk {h : Addr} {S : St2} (hh : HAt H h S) (k : NK H H') : HAt H' h S := by
  obtain ⟨l, a, h1, h2, h3⟩ := hh
  exact ⟨l, a, k _ _ h1 (.tup _), h2.nk k, h3.nk k⟩
/-- the law's own past: operations, and what was there before -/
def PastAt (H : Hp) (l : Addr) (ps : List (Op × St2)) : Prop := ∃ ts : List Addr, H l = some (.lst (ts.map V.ref)) ∧ ts.length = ps.length ∧ ∀ (i : Nat) (t : Addr) (q : Op × St2), ts[i]? = some t → ps[i]? = some q → ∃ d h : Addr, H t = some (.tup [.ref d, .ref h]) ∧ H d = some (.tup q.1.vs) ∧ HAt H h q.2
theorem PastAt.nk {l : Addr} {ps : List (Op × St2)} (h : PastAt H l ps) (k : NK H H') : PastAt H' l ps := by
  obtain ⟨ts, h1, h2, h3⟩ := h
  refine ⟨ts, k _ _ h1 (.refs _), h2, fun i t q e1 e2 => ?_⟩
  obtain ⟨d, hh, a1, a2, a3⟩ := h3 i t q e1 e2
  exact ⟨d, hh, k _ _ a1 (.tup _), k _ _ a2 (.tup _), a3.nk k⟩
end
end Sl

set_option Elab.async false
set_option linter.all false
set_option maxRecDepth 100000
set_option maxHeartbeats 4000000
namespace Sl
open PySem PySem.Spec L2 OwnR LamX
section
variable {P : Program} {w : World} {K : PySem.W.Frag} {mg : Str → Option Value} {base : Heap}
/-! ### _law_less -/
def spLess : Sp := fun vs H Q _ => ∃ (a : Addr) (cars : List Car) (n : Str), vs = [.ref a, .str n] ∧ CarsAt H a cars ∧ CarsOk cars ∧ ∀ H' b, Same H H' → CarsAt H' b (lessC cars n) → Q (.ref b) H'
def nLess : List Str := ["_law_cars", "_law_name", "_law_car"]
theorem scLess : FnScope nLess ["_law_cars", "_law_name"] (defScope sLess) := ⟨rfl, rfl, rfl, by decide +kernel, rfl, by decide +kernel, by decide +kernel⟩
theorem ok_less {f : Addr} {fd : FuncData} (F : Fun K "_law_less" "_law_less" sLess f fd) (M : Mg mg) : FnOk P w K mg base CX0 1 f fd ["_law_cars", "_law_name"] spLess := by
  refine F.ok scLess (fun vs H Q E h => ?_) (fun cdv A outer s H vs Q E hr h => ?_)
  · obtain ⟨a, cars, n, rfl, _⟩ := h
    rfl
  · obtain ⟨a, cars, n, rfl, hC, CO, k⟩ := h
    have nd := scLess.nd
    refine ⟨_, pss_one (ps_ret (pe_callTy call_tuple_of (by rfl) M.tuple boot_tTuple (pa_cons (pe_lc (own := [("_law_car", 2)]) (g := gName 2) (tt := tTest (tOp rNe (tOp (rIxT K) (tVar 2) (tC (.int 0))) (tVar 1))) (te := tVar 2) (by rfl) nd (pi_tup (pv 0)) (blkOk_by (N := nLess) (sc := defScope sLess) (by decide +kernel))
          (fun _ _ _ _ _ => pg_name (i := 2) nd rfl (Or.inl rfl)) (fun _ _ _ _ _ => pts_one (pt_cmpR op_ne (pe_ix (r := rIxT K) ix_tup (pv 2) pe_int (fun _ _ => rfl)) (pv 1) (nomark _))) (fun _ _ _ _ _ => pv 2)) pa_nil))), ?_⟩
    obtain ⟨ts, h1, h2, h3⟩ := hC
    have few := CO.few
    have hl : (ts.map V.ref).length = cars.length := by rw [List.length_map, h2]
    refine ⟨_, rfl, a, rfl, ⟨_, SqT.of h1⟩, fun D hD => ?_⟩
    refine lc_it walk_tup (fun i H1 => Same H H1 ∧ ∃ us : List Addr, H1 D = some (.lst (us.map V.ref)) ∧ us.length = (lessC (cars.take i) n).length ∧ ∀ (q : Nat) (t : Addr) (c : Car), us[q]? = some t → (lessC (cars.take i) n)[q]? = some c → H t = some (.tup c.vs))
      ⟨sameNew hD _, [], upd_same, rfl, fun q t c e => by simp at e⟩ (fun i H1 _ ⟨k1, _⟩ => SqT.of (k1 _ _ h1)) ?_ ?_
    · rintro i y Hz H1 hi ⟨k1, us, u1, u2, u3⟩ ⟨e, hy⟩
      subst e
      obtain ⟨t, ht, rfl⟩ : ∃ t, ts[i]? = some t ∧ y = V.ref t := by
        rw [List.getElem?_map] at hy
        obtain ⟨t, z1, z2⟩ := Option.map_eq_some_iff.mp hy
        exact ⟨t, z1, z2.symm⟩
      rw [hl] at hi
      obtain ⟨c, hc⟩ : ∃ c, cars[i]? = some c := ⟨_, List.getElem?_eq_getElem hi⟩
      have htv := h3 i t c ht hc
      refine ⟨rfl, ?_⟩
      refine ⟨_, rfl, t, _, ((0 : Nat) : Int), .str c.name, rfl, rfl, SqT.of (k1 _ _ htv), atI_nat rfl, _, rfl, rfl, _, rfl, ?_⟩
      have e1 : lessC (cars.take (i + 1)) n = lessC (cars.take i) n ++ (if c.name = n then [] else [c]) := by
        unfold lessC
        rw [tk1 hc, List.filter_append]
        by_cases h : c.name = n <;> simp [h]
      have hul : (lessC (cars.take i) n).length ≤ 10 := by
        have := List.length_filter_le (fun c : Car => decide (c.name ≠ n)) (cars.take i)
        rw [List.length_take] at this
        unfold lessC
        omega
      rw [e1]
      by_cases h : c.name = n
      · rw [show (!decide (V.str c.name = V.str n)) = false by simp [h], if_pos h, List.append_nil]
        exact iteF ⟨k1, us, u1, u2, u3⟩
      · rw [show (!decide (V.str c.name = V.str n)) = true by simp [h], if_neg h]
        refine iteT ⟨_, rfl, _, u1, by rw [List.length_map, u2]; exact small1000 (by omega), fun b o e => by rw [upd_ne (ne_of_none e hD)]; exact k1 _ _ e, us ++ [t], by rw [upd_same, List.map_append]; rfl, by rw [List.length_append, List.length_append, u2]; rfl, fun q t' c' e1 e2 => ?_⟩
        rcases snoc_get e1 with e1 | ⟨hq, rfl⟩
        · have hql := (List.getElem?_eq_some_iff.mp e1).1
          rw [List.getElem?_append_left (by omega)] at e2
          exact u3 q t' c' e1 e2
        · rw [List.getElem?_append_right (by omega), hq, u2, Nat.sub_self] at e2
          have : c = c' := by simpa using e2
          rw [← this]
          exact htv
    · rintro H1 ⟨k1, us, u1, u2, u3⟩
      rw [hl, List.take_length] at u2 u3
      refine ⟨D, _, rfl, .inl ⟨SqL.of u1, fun b hb => ?_⟩⟩
      have s3 := sameNew hb (.tup (us.map V.ref))
      exact k _ b (k1.trans s3) ⟨us, upd_same, u2, fun q t c e1 e2 => s3 _ _ (k1 _ _ (u3 q t c e1 e2))⟩
/-! ### _law_told, _law_due -/
def TellAt (H : Hp) (l : Addr) (S : St2) : Prop := ∃ r a : Addr, H l = some (.lst [.ref r, .ref a, .int ((S.2.length : Nat) : Int)]) ∧ RunsAt H r S.1 ∧ CarsAt H a S.2
def spTold (CL CR : Addr) : Sp := fun vs H Q _ => ∃ (x dx : Addr) (ss un : List LS) (S : St2) (q : Option Op), vs = [.ref x] ∧ LvAt CL CR H x dx ss un ∧ ss.getLast? = some (S, q) ∧ StOk S ∧ ∀ H' l, Same H H' → TellAt H' l S → Q (.ref l) H'
theorem scTold : FnScope ["_law_live"] ["_law_live"] (defScope sTold) := ⟨rfl, rfl, rfl, by decide +kernel, rfl, by decide +kernel, by decide +kernel⟩
theorem ok_told {f pR fR pC fC pS fS fN CL CR : Addr} {fd dR dC dS dN : FuncData} (F : Fun K "_law_told" "_law_told" sTold f fd) (M : Mg mg) (LT : LivT K CL) (rcl : Cls K CR)
    (PR : PropOf K CL "present_road" pR fR) (bR : Binds K dR ["self"] []) (GR : FnOk P w K mg base CX0 1 fR dR ["self"] (spPRoad CL CR))
    (PC : PropOf K CL "present_cars" pC fC) (bC : Binds K dC ["self"] []) (GC : FnOk P w K mg base CX0 1 fC dC ["self"] (spPCars CL CR))
    (PS : PropOf K CR "sections" pS fS) (bS : Binds K dS ["self"] []) (GS : FnOk P w K mg base CX0 1 fS dS ["self"] (getSp CR "_sections"))
    (sN : PySem.W.findIn K (.ref CL) "__len__" = some (some (.ref fN))) (iN : PySem.W.isFn K (.ref fN) = true) (bN : Binds K dN ["self"] []) (GN : FnOk P w K mg base CX0 1 fN dN ["self"] (spLLen CL CR)) : FnOk P w K mg base CX0 3 f fd ["_law_live"] (spTold CL CR) := by
  refine F.ok scTold (fun vs H Q E h => ?_) (fun cdv A outer s H vs Q E hr h => ?_)
  · obtain ⟨x, dx, ss, un, S, q, rfl, _⟩ := h
    rfl
  · obtain ⟨x, dx, ss, un, S, q, rfl, lv, e, ok, k⟩ := h
    have hr2 : Room 2 (A.deeper (PyProof.Rows.envOfC "_law_told" (defScope sTold) s.heap.objs.size f cdv)) := hr
    refine ⟨_, pss_one (ps_ret (pe_lst (pa_cons (pe_callTy call_list_of (by rfl) M.list (by decide +kernel) (pa_cons (pe_prop (pe_prop (pv 0) LT.cl PR GR hr2 bR .nil pass0 rfl) rcl PS GS hr2 bS .nil pass0 rfl) pa_nil)) (pa_cons (pe_prop (pv 0) LT.cl PC GC hr2 bC .nil pass0 rfl) (pa_cons (pe_callB (call_lenO sN iN (GN.raw bN .nil) hr2 pass0) (by rfl) M.len boot_len (pa_cons (pv 0) pa_nil)) pa_nil))))), ?_⟩
    obtain ⟨fs, hx, _⟩ := lv.ins
    refine ⟨_, rfl, x, dx, _, rfl, hx, x, dx, ss, un, S, q, rfl, lv, e, fun p rd => ?_⟩
    obtain ⟨dp, t, u, hp, ⟨ts, t1, t2, t3⟩, hu⟩ := id rd
    refine ⟨p, dp, _, rfl, hp, p, dp, _, _, rfl, hp, rf_sections _ _, t, _, rfl, .inr (SqT.of t1), fun l hl => ?_⟩
    have s1 := sameNew hl (.lst (ts.map V.ref))
    have r1 : RunsAt (upd H l (.lst (ts.map V.ref))) l S.1 := ⟨ts, upd_same, t2, fun i a v e1 e2 => s1 _ _ (t3 i a v e1 e2)⟩
    have lv1 := lv.ext (ExtN.same s1)
    have hx1 := s1 _ _ hx
    generalize upd H l (.lst (ts.map V.ref)) = H1 at s1 r1 lv1 hx1 ⊢
    refine ⟨_, rfl, x, dx, _, rfl, hx1, x, dx, ss, un, S, q, rfl, lv1, e, fun a ct => ?_⟩
    refine ⟨_, rfl, x, dx, _, rfl, hx1, x, dx, ss, un, S, q, rfl, lv1, e, ?_⟩
    refine ⟨_, rfl, Nat.le_of_lt (small1000 (by have := ok.co.few; omega)), by show 3 ≤ sizeLine; decide, fun z hz => ?_⟩
    have s2 := sameNew hz (.lst [V.ref l, V.ref a, V.int ((S.2.length : Nat) : Int)])
    exact k _ z (s1.trans s2) ⟨l, a, upd_same, r1.ext (ExtN.same s2), ct.ext (ExtN.same s2)⟩
/-! ### _law_asked -/
def spAsked (CL CR CNm CMy CU : Addr) (T : List (Addr × Str)) : Sp := fun vs H Q E => ∃ (x dx t : Addr) (ss un : List LS) (S : St2) (o : Op), vs = [.ref x, .ref t] ∧ H t = some (.tup o.vs) ∧ LvIn CL CR T H x dx ss un S ∧ OpOk S o ∧ AskR CL CR CNm CMy CU T H x dx ss S o Q E
theorem scAsked : FnScope ["_law_live", "_law_deed_here"] ["_law_live", "_law_deed_here"] (defScope sAsked) := ⟨rfl, rfl, rfl, by decide +kernel, rfl, by decide +kernel, by decide +kernel⟩
theorem op_ne1 : ¬ ("remove" : Str) = "join" := by decide +kernel
theorem op_ne2 : ¬ ("set_kind" : Str) = "join" := by decide +kernel
theorem op_ne3 : ¬ ("set_kind" : Str) = "remove" := by decide +kernel
theorem ok_asked {f fJ fR fK CL CR CNm CMy CU : Addr} {fd dJ dR dK : FuncData} {T : List (Addr × Str)} (F : Fun K "_law_asked" "_law_asked" sAsked f fd) (LT : LivT K CL)
    (BJ : Fm K CL "join" "LiveRoad.join" sLiveRoadJoin ["self", "name", "start", "pace"] fJ dJ) (GJ : FnOk P w K mg base (L2.CX P w) 11 fJ dJ ["self", "name", "start", "pace"] (spMJoin CL CR CNm CMy CU T))
    (BR : Fm K CL "remove" "LiveRoad.remove" sLiveRoadRemove ["self", "name"] fR dR) (GR : FnOk P w K mg base (L2.CX P w) 11 fR dR ["self", "name"] (spMRem CL CR CNm CMy CU T))
    (BK : Fm K CL "set_kind" "LiveRoad.set_kind" sLiveRoadSetKind ["self", "section", "kind"] fK dK) (GK : FnOk P w K mg base (L2.CX P w) 11 fK dK ["self", "section", "kind"] (spMKind CL CR CNm CMy CU T)) : FnOk P w K mg base (L2.CX P w) 12 f fd ["_law_live", "_law_deed_here"] (spAsked CL CR CNm CMy CU T) := by
  refine F.okX scAsked (fun vs H Q E h => ?_) (fun cdv A outer s H vs Q E hr h => ?_)
  · obtain ⟨x, dx, t, ss, un, S, o, rfl, _⟩ := h
    rfl
  · obtain ⟨x, dx, t, ss, un, S, o, rfl, ht, I, ok, h⟩ := h
    have nd := scAsked.nd
    refine ⟨_, pss_cons (ps_if (pt_cmpR op_eq (pe_ix (r := rIxT K) ix_tup (pv 1) pe_int (fun _ _ => rfl)) pe_str (nomark _)) (pss_one (ps_ret (pe_meth (pv 0) LT.cl BJ.at_ GJ hr BJ.bd .nil (passes_call (takes_of rfl rfl rfl rfl) fun _ _ _ _ h => h) (pa_cons (pe_ix (r := rIxT K) ix_tup (pv 1) pe_int (fun _ _ => rfl)) (pa_cons (pe_ix (r := rIxT K) ix_tup (pv 1) pe_int (fun _ _ => rfl)) (pa_cons (pe_ix (r := rIxT K) ix_tup (pv 1) pe_int (fun _ _ => rfl)) pa_nil)))))) pss_nil)
      (pss_one (ps_ret (pe_ifExp (pt_cmpR op_eq (pe_ix (r := rIxT K) ix_tup (pv 1) pe_int (fun _ _ => rfl)) pe_str (nomark _)) (pe_meth (pv 0) LT.cl BR.at_ GR hr BR.bd .nil (passes_call (takes_of rfl rfl rfl rfl) fun _ _ _ _ h => h) (pa_cons (pe_ix (r := rIxT K) ix_tup (pv 1) pe_int (fun _ _ => rfl)) pa_nil))
        (pe_meth (pv 0) LT.cl BK.at_ GK hr BK.bd .nil (passes_call (takes_of rfl rfl rfl rfl) fun _ _ _ _ h => h) (pa_cons (pe_ix (r := rIxT K) ix_tup (pv 1) pe_int (fun _ _ => rfl)) (pa_cons (pe_ix (r := rIxT K) ix_tup (pv 1) pe_int (fun _ _ => rfl)) pa_nil)))))), ?_⟩
    obtain ⟨fs, hx, hno⟩ := I.lv.ins
    cases o with
    | join n st pc =>
      refine ⟨_, rfl, t, _, ((0 : Nat) : Int), .str "join", rfl, rfl, SqT.of ht, atI_nat rfl, rfl, _, rfl, ?_⟩
      rw [decide_eq_true rfl]
      refine iteT ⟨_, rfl, x, dx, _, rfl, hx, hno _ (by decide +kernel) (by decide +kernel) (by decide +kernel) (by decide +kernel) (by decide +kernel), _, rfl, t, _, ((1 : Nat) : Int), .str n, rfl, rfl, SqT.of ht, atI_nat rfl, _, rfl, t, _, ((2 : Nat) : Int), .int ((st : Nat) : Int), rfl, rfl, SqT.of ht, atI_nat rfl, _, rfl, t, _, ((3 : Nat) : Int), .int ((pc : Nat) : Int), rfl, rfl, SqT.of ht, atI_nat rfl, ?_⟩
      exact ⟨x, dx, ss, un, S, n, st, pc, rfl, I, ok, h⟩
    | rem n =>
      refine ⟨_, rfl, t, _, ((0 : Nat) : Int), .str "remove", rfl, rfl, SqT.of ht, atI_nat rfl, rfl, _, rfl, ?_⟩
      rw [decide_eq_false (fun z => op_ne1 (V.str.inj z))]
      refine iteF ⟨_, rfl, t, _, ((0 : Nat) : Int), .str "remove", rfl, rfl, SqT.of ht, atI_nat rfl, rfl, _, rfl, ?_⟩
      rw [decide_eq_true rfl]
      refine iteT ⟨_, rfl, x, dx, _, rfl, hx, hno _ (by decide +kernel) (by decide +kernel) (by decide +kernel) (by decide +kernel) (by decide +kernel), _, rfl, t, _, ((1 : Nat) : Int), .str n, rfl, rfl, SqT.of ht, atI_nat rfl, ?_⟩
      exact ⟨x, dx, ss, un, S, n, rfl, I, h⟩
    | kind i b =>
      refine ⟨_, rfl, t, _, ((0 : Nat) : Int), .str "set_kind", rfl, rfl, SqT.of ht, atI_nat rfl, rfl, _, rfl, ?_⟩
      rw [decide_eq_false (fun z => op_ne2 (V.str.inj z))]
      refine iteF ⟨_, rfl, t, _, ((0 : Nat) : Int), .str "set_kind", rfl, rfl, SqT.of ht, atI_nat rfl, rfl, _, rfl, ?_⟩
      rw [decide_eq_false (fun z => op_ne3 (V.str.inj z))]
      refine iteF ⟨_, rfl, x, dx, _, rfl, hx, hno _ (by decide +kernel) (by decide +kernel) (by decide +kernel) (by decide +kernel) (by decide +kernel), _, rfl, t, _, ((1 : Nat) : Int), .int ((i : Nat) : Int), rfl, rfl, SqT.of ht, atI_nat rfl, _, rfl, t, _, ((2 : Nat) : Int), .str (kindS b), rfl, rfl, SqT.of ht, atI_nat rfl, ?_⟩
      exact ⟨x, dx, ss, un, S, i, b, rfl, I, ok, h⟩
end
end Sl

set_option Elab.async false
set_option linter.all false
set_option maxRecDepth 100000
set_option maxHeartbeats 1000000
namespace Sl
open PySem PySem.Spec L2 OwnR LamX
/-! ### what the law compares, as data -/
def NamesOk (cars : List Car) : Prop := ∀ n ∈ names cars, PyData.strOk n = true
theorem namesOk {cars : List Car} (CO : CarsOk cars) : NamesOk cars := fun n hn => by
  obtain ⟨c, hc, rfl⟩ := List.mem_map.mp hn
  obtain ⟨_, _, h⟩ := (CO.all c hc).nm
  unfold PyData.strOk
  rw [Array.all_eq_true_iff_forall_mem]
  intro x hx
  have := h x (by rw [Array.mem_toList_iff]; exact hx)
  simp
  omega
def intsD (l : List Int) : PyData := .list (l.map PyData.int)
theorem shp_intsD (l : List Int) : Shp 1 (intsD l) := shp_list fun d hd => by
  obtain ⟨i, _, rfl⟩ := List.mem_map.mp hd
  exact shp_int i
theorem dp_ints {K : PySem.W.Frag} {H : Hp} {a : Addr} {l : List Int} (h : H a = some (.lst (l.map V.int))) : Dp K H (.ref a) (intsD l) := .lst (SqL.of h) (dp_vals V.int PyData.int (fun i => .int i) l)
def strsD (l : List Str) : PyData := .list (l.map PyData.str)
theorem shp_strsD {l : List Str} (h : ∀ n ∈ l, PyData.strOk n = true) : Shp 1 (strsD l) := shp_list fun d hd => by
  obtain ⟨i, hi, rfl⟩ := List.mem_map.mp hd
  exact shp_str (h i hi)
theorem dp_strs {K : PySem.W.Frag} {H : Hp} {a : Addr} {l : List Str} (h : H a = some (.lst (l.map V.str))) : Dp K H (.ref a) (strsD l) := .lst (SqL.of h) (dp_vals V.str PyData.str (fun i => .str i) l)
def optD : Option Str → PyData
  | some s => .str s
  | none => .none
theorem dp_opt {K : PySem.W.Frag} {H : Hp} (o : Option Str) : Dp K H (strO o) (optD o) := by
  cases o with
  | none => exact .non
  | some s => exact .str s
def optsD (l : List (Option Str)) : PyData := .list (l.map optD)
theorem shp_optsD {l : List (Option Str)} (h : ∀ n, some n ∈ l → PyData.strOk n = true) : Shp 1 (optsD l) := shp_list fun d hd => by
  obtain ⟨o, ho, rfl⟩ := List.mem_map.mp hd
  cases o with
  | none => exact shp_non
  | some s => exact shp_str (h s ho)
theorem dp_opts {K : PySem.W.Frag} {H : Hp} {a : Addr} {l : List (Option Str)} (h : H a = some (.lst (l.map strO))) : Dp K H (.ref a) (optsD l) := .lst (SqL.of h) (dp_vals strO optD dp_opt l)
/-- leaders are cars -/
theorem foll_lead (fr : Str → Int) (ord : List Str) : ∀ r ∈ foll fr ord, ∀ m, r.2.2 = some m → m ∈ ord := by
  have h : ∀ (l : List Str) (pre : List Str) (acc : List (RowT Str)), acc.map (·.1) = pre → (∀ r ∈ acc, ∀ m, r.2.2 = some m → m ∈ pre) → ∀ r ∈ l.foldl (fun acc n => acc ++ [fnext fr acc n]) acc, ∀ m, r.2.2 = some m → m ∈ pre ++ l := by
    intro l
    induction l with
    | nil => intro pre acc _ h; simpa using h
    | cons n q ih =>
      intro pre acc e h
      rw [List.foldl_cons]
      have := ih (pre ++ [n]) (acc ++ [fnext fr acc n]) (by rw [List.map_append, e]; simp [fnext_name]) fun r hr m hm => by
        rcases List.mem_append.mp hr with hr | hr
        · exact List.mem_append_left _ (h r hr m hm)
        · rw [List.mem_singleton.mp hr] at hm
          refine List.mem_append_left _ ?_
          unfold fnext at hm
          split at hm
          · cases hm
          · rename_i a t lo hl
            have hmem := List.mem_of_getLast? hl
            split at hm
            · have hm : some (lo.getD a) = some m := hm
              have hm := Option.some.inj hm
              cases lo with
              | none =>
                rw [← hm, ← e]
                exact List.mem_map.mpr ⟨_, hmem, rfl⟩
              | some b =>
                rw [← hm]
                exact h _ hmem b rfl
            · cases hm
      simpa using this
  intro r hr m hm
  have := h ord [] [] rfl (fun r hr => nomatch hr) r hr m hm
  simpa using this
theorem ldrC_in {secs : List Sec} {cars : List Car} {k : Nat} {n m : Str} (h : ldrC secs cars k n = some m) : m ∈ names cars := by
  have h : ldr (paceOf cars) (pl0 cars) secs k n = some m := h
  unfold ldr at h
  cases hs : secs[k]? with
  | none => rw [hs] at h; cases h
  | some s =>
    rw [hs] at h
    have h : leadP (paceOf cars) (plcC secs cars k) s n = some m := h
    unfold leadP at h
    split at h
    · cases h
    · unfold leadOf look at h
      cases q : (foll (freeP (paceOf cars) (plcC secs cars k) s.2) (plcC secs cars k).ord).find? (fun r => decide (r.1 = n)) with
      | none => rw [q] at h; cases h
      | some r =>
        rw [q] at h
        have h : r.2.2 = some m := h
        exact (plcC_perm secs cars k).mem_iff.mp (foll_lead _ _ r (List.mem_of_find?_eq_some q) m h)
theorem ord_ok {secs : List Sec} {cars : List Car} (CO : CarsOk cars) (k : Nat) : ∀ n ∈ (plcC secs cars k).ord, PyData.strOk n = true := fun n hn => namesOk CO n ((plcC_perm secs cars k).mem_iff.mp hn)
def ordsD (secs : List Sec) (cars : List Car) : PyData := .list ((List.range (secs.length + 1)).map fun k => strsD (plcC secs cars k).ord)
theorem shp_ordsD {secs : List Sec} {cars : List Car} (CO : CarsOk cars) : Shp 2 (ordsD secs cars) := shp_list fun d hd => by
  obtain ⟨k, _, rfl⟩ := List.mem_map.mp hd
  exact shp_strsD (ord_ok CO k)
theorem dp_ords {K : PySem.W.Frag} {H : Hp} {a : Addr} {secs : List Sec} {cars : List Car} (h : OrdsAt H a secs cars) : Dp K H (.ref a) (ordsD secs cars) := by
  obtain ⟨os, h1, h2, h3⟩ := h
  refine .lst (SqL.of h1) (dp_refs (fun k => strsD (plcC secs cars k).ord) (by rw [h2, List.length_range]) fun i b k e1 e2 => ?_)
  have hi : i < secs.length + 1 := by
    have := (List.getElem?_eq_some_iff.mp e1).1
    omega
  rw [List.getElem?_range hi] at e2
  cases e2
  exact dp_strs (h3 i b e1)
end Sl

set_option Elab.async false
set_option linter.all false
set_option maxRecDepth 100000
set_option maxHeartbeats 4000000
namespace Sl
open PySem PySem.Spec L2 OwnR LamX
/-! ### data that is compared -/
theorem eqvAll_strs : ∀ a b : List Str, PyData.eqvAll (a.map PyData.str) (b.map PyData.str) = decide (a = b)
  | [], [] => rfl
  | [], _ :: _ => rfl
  | _ :: _, [] => rfl
  | x :: a, y :: b => by
    show (PyData.eqv (.str x) (.str y) && PyData.eqvAll (a.map PyData.str) (b.map PyData.str)) = _
    rw [eqvAll_strs a b]
    by_cases h : x = y <;> by_cases g : a = b <;> simp [PyData.eqv, h, g]
theorem eqv_strsD (a b : List Str) : PyData.eqv (strsD a) (strsD b) = decide (a = b) := eqvAll_strs a b
theorem eqvAll_ints : ∀ a b : List Int, PyData.eqvAll (a.map PyData.int) (b.map PyData.int) = decide (a = b)
  | [], [] => rfl
  | [], _ :: _ => rfl
  | _ :: _, [] => rfl
  | x :: a, y :: b => by
    show (PyData.eqv (.int x) (.int y) && PyData.eqvAll (a.map PyData.int) (b.map PyData.int)) = _
    rw [eqvAll_ints a b]
    by_cases h : x = y <;> by_cases g : a = b <;> simp [PyData.eqv, h, g]
theorem eqv_intsD (a b : List Int) : PyData.eqv (intsD a) (intsD b) = decide (a = b) := eqvAll_ints a b
/-! ### cars as data -/
def carD (c : Car) : PyData := .tuple [.str c.name, .int c.start, .int c.pace]
def carsD (cars : List Car) : PyData := .tuple (cars.map carD)
theorem dp_cars {K : PySem.W.Frag} {H : Hp} {a : Addr} {cars : List Car} (h : CarsAt H a cars) : Dp K H (.ref a) (carsD cars) := by
  obtain ⟨ts, h1, h2, h3⟩ := h
  exact .tup (SqT.of h1) (dp_refs carD h2 fun i t c e1 e2 => .tup (SqT.of (h3 i t c e1 e2)) (.cons (.str _) (.cons (.int _) (.cons (.int _) .nil))))
theorem shp_cars {cars : List Car} (h : ∀ c ∈ cars, PyData.strOk c.name = true) : Shp 2 (carsD cars) := shp_tuple fun d hd => by
  obtain ⟨c, hc, rfl⟩ := List.mem_map.mp hd
  refine shp_tuple fun e he => ?_
  rcases List.mem_cons.mp he with rfl | he
  · exact shp_str (h c hc)
  · rcases List.mem_cons.mp he with rfl | he
    · exact shp_int _
    · rw [List.mem_singleton.mp he]
      exact shp_int _
theorem cars_nil (cars : List Car) : PyData.eqv (carsD cars) (.tuple []) = decide (cars = []) := by
  cases cars with
  | nil => rfl
  | cons c r => rfl
/-! ### observations as data -/
def vD : V → PyData
  | .int i => .int i
  | .str s => .str s
  | _ => .none
inductive FlOk : V → Prop
  | i (i : Int) : FlOk (.int i)
  | s {s : Str} (h : PyData.strOk s = true) : FlOk (.str s)
theorem FlOk.shp {v : V} (h : FlOk v) : Shp 0 (vD v) := by
  cases h with
  | i i => exact shp_int i
  | s h => exact shp_str h
theorem FlOk.dp {K : PySem.W.Frag} {H : Hp} {v : V} (h : FlOk v) : Dp K H v (vD v) := by
  cases h with
  | i i => exact .int i
  | s h => exact .str _
def histD (hist : List (List V)) : PyData := .list (hist.map fun r => .tuple (r.map vD))
theorem shp_histD {hist : List (List V)} (h : ∀ r ∈ hist, ∀ v ∈ r, FlOk v) : Shp 2 (histD hist) := shp_list fun d hd => by
  obtain ⟨r, hr, rfl⟩ := List.mem_map.mp hd
  exact shp_tuple fun e he => by
    obtain ⟨v, hv, rfl⟩ := List.mem_map.mp he
    exact (h r hr v hv).shp
theorem dp_flat {K : PySem.W.Frag} {H : Hp} : ∀ {r : List V}, (∀ v ∈ r, FlOk v) → DpAll K H r (r.map vD)
  | [], _ => .nil
  | v :: r, h => .cons (h v List.mem_cons_self).dp (dp_flat fun u hu => h u (List.mem_cons_of_mem _ hu))
theorem dp_hist {K : PySem.W.Frag} {H : Hp} {a : Addr} {hist : List (List V)} (h : ∀ r ∈ hist, ∀ v ∈ r, FlOk v) (t : TupsAt H a hist) : Dp K H (.ref a) (histD hist) := by
  obtain ⟨ts, h1, h2, h3⟩ := t
  exact .lst (SqL.of h1) (dp_refs (fun r => .tuple (r.map vD)) h2 fun i b r e1 e2 => .tup (SqT.of (h3 i b r e1 e2)) (dp_flat (h r (List.mem_of_getElem? e2))))
/-! ### _law_deed -/
theorem name_one {c : Nat} (h1 : 97 ≤ c) (h2 : c ≤ 122) : NameOk (⟨#[c]⟩ : Str) := ⟨by show 1 ≤ 1; decide, by show 1 ≤ 8; decide, fun x hx => by
  have : x = c := by simpa using hx
  omega⟩
theorem letter14 (q : Nat) (h : q < 14) : ∃ c : Nat, atI ("abcdefghijklmn" : Str).cps.toList ((q : Nat) : Int) = some c ∧ 97 ≤ c ∧ c ≤ 122 := by
  match q, h with
  | 0, _ => exact ⟨97, rfl, by decide, by decide⟩
  | 1, _ => exact ⟨98, rfl, by decide, by decide⟩
  | 2, _ => exact ⟨99, rfl, by decide, by decide⟩
  | 3, _ => exact ⟨100, rfl, by decide, by decide⟩
  | 4, _ => exact ⟨101, rfl, by decide, by decide⟩
  | 5, _ => exact ⟨102, rfl, by decide, by decide⟩
  | 6, _ => exact ⟨103, rfl, by decide, by decide⟩
  | 7, _ => exact ⟨104, rfl, by decide, by decide⟩
  | 8, _ => exact ⟨105, rfl, by decide, by decide⟩
  | 9, _ => exact ⟨106, rfl, by decide, by decide⟩
  | 10, _ => exact ⟨107, rfl, by decide, by decide⟩
  | 11, _ => exact ⟨108, rfl, by decide, by decide⟩
  | 12, _ => exact ⟨109, rfl, by decide, by decide⟩
  | 13, _ => exact ⟨110, rfl, by decide, by decide⟩
def StLe (S : St2) (b : Nat) : Prop := ∀ c ∈ S.2, c.start ≤ ((b : Nat) : Int) ∧ c.name ≠ "zz"
section
variable {P : Program} {w : World} {K : PySem.W.Frag} {mg : Str → Option Value} {base : Heap}
def spDeed (K : PySem.W.Frag) : Sp := fun vs H Q _ => ∃ (r sc h : Addr) (ns : List Int) (S : St2) (b : Nat), vs = [.ref r, .ref h] ∧ RowAt K H r sc ns ∧ HAt H h S ∧ StOk S ∧ StLe S b ∧ b ≤ 900000 ∧
  ∀ H' t o, KeepB r H H' → RowAt K H' r sc ns → H' t = some (.tup o.vs) → (∀ v ∈ o.vs, FlOk v) → OpOk S o → (∀ S' v, stepO S o = .inr (S', v) → StLe S' (b + 8)) → Q (.ref t) H'
def nDeed : List Str := ["_law_row", "_law_h", "_law_sections_here", "_law_cars", "_law_way", "_law_least", "_law_name", "_law_car"]
theorem scDeed : FnScope nDeed ["_law_row", "_law_h"] (defScope sDeed) := ⟨rfl, rfl, rfl, by decide +kernel, rfl, by decide +kernel, by decide +kernel⟩
theorem ok_deed {f fT : Addr} {fd dT : FuncData} (F : Fun K "_law_deed" "_law_deed" sDeed f fd) (M : Mg mg) (BTk : Fb K mg "_law_taken" sTaken ["_law_row", "_law_many"] fT dT) (GTk : FnOk P w K mg base CX0 1 fT dT ["_law_row", "_law_many"] (spTaken K)) : FnOk P w K mg base CX0 2 f fd ["_law_row", "_law_h"] (spDeed K) := by
  refine F.ok scDeed (fun vs H Q E h => ?_) (fun cdv A outer s H vs Q E hr h => ?_)
  · obtain ⟨r, sc, h, ns, S, b, rfl, _⟩ := h
    rfl
  · obtain ⟨r, sc, h, ns, S, b, rfl, R0, hh, ok, le, hb, k⟩ := h
    have nd := scDeed.nd
    have hu64 := hr.units
    have hr1 : Room 1 (A.deeper (PyProof.Rows.envOfC "_law_deed" (defScope sDeed) s.heap.objs.size f cdv)) := hr.mono (by decide)
    refine ⟨_, (pss_cons (ps_asg (pv 1) (pg_tup rfl (pgs_cons (pg_name (i := 2) nd rfl (.inl rfl)) (pgs_cons (pg_name (i := 3) nd rfl (.inl rfl)) pgs_nil)))) (pss_cons (ps_set (i := 4) nd rfl (.inl rfl) (pe_call GTk hr1 (by rfl) BTk.at_ BTk.fn.kp BTk.bd .nil pass0 (pa_cons (pv 0) (pa_cons pe_int pa_nil)))) (pss_cons (ps_if (PW.pt (pw_or (pt_cmpR op_lt (pv 4) pe_int (nomark _)) (pw_or1 (pt_cmpR (op_eqD hu64) (pv 3) (pe_tup pa_nil) (nomark _))))) (pss_cons (ps_set (i := 5) nd rfl (.inl rfl) (pe_ifExp (pt_cmpR (op_neD hu64) (pv 3) (pe_tup pa_nil) (nomark _)) (pe_ix (r := rIxT K) ix_tup (pe_ix (r := rIxT K) ix_tup (pv 3) (pe_un un_neg pe_int) (fun _ _ => rfl)) pe_int (fun _ _ => rfl)) pe_int)) (pss_cons (ps_set (i := 6) nd rfl (.inl rfl) (pe_ix ix_str pe_str (pe_call GTk hr1 (by rfl) BTk.at_ BTk.fn.kp BTk.bd .nil pass0 (pa_cons (pv 0) (pa_cons pe_int pa_nil))) (fun _ _ => rfl))) (pss_one (ps_ret (pe_tup (pa_cons pe_str (pa_cons (pv 6) (pa_cons (pe_op op_add (pv 5) (pe_call GTk hr1 (by rfl) BTk.at_ BTk.fn.kp BTk.bd .nil pass0 (pa_cons (pv 0) (pa_cons pe_int pa_nil)))) (pa_cons (pe_op op_add pe_int (pe_call GTk hr1 (by rfl) BTk.at_ BTk.fn.kp BTk.bd .nil pass0 (pa_cons (pv 0) (pa_cons pe_int pa_nil)))) pa_nil))))))))) pss_nil) (pss_cons (ps_if (pt_cmpR op_eq (pv 4) pe_int (nomark _)) (pss_one (ps_ret (pe_tup (pa_cons pe_str (pa_cons (pe_ix (r := rIxL K) ix_list (pe_op op_cat (pe_lc (own := [("_law_car", 7)]) (g := gName 7) (tt := tYes) (te := tOp (rIxT K) (tVar 7) (tC (.int 0))) (by rfl) nd (pi_tup (pv 3)) (blkOk_by (N := nDeed) (sc := defScope sDeed) (by decide +kernel)) (fun _ _ _ _ _ => (pg_name (i := 7) nd rfl (Or.inl rfl))) (fun _ _ _ _ _ => pts_nil) (fun _ _ _ _ _ => (pe_ix (r := rIxT K) ix_tup (pv 7) pe_int (fun _ _ => rfl)))) (pe_lst (pa_cons pe_str pa_nil))) (pe_call GTk hr1 (by rfl) BTk.at_ BTk.fn.kp BTk.bd .nil pass0 (pa_cons (pv 0) (pa_cons (pe_op op_add (pe_callB call_len_seq (by rfl) M.len boot_len (pa_cons (pv 3) pa_nil)) pe_int) pa_nil))) (fun _ _ => rfl)) pa_nil))))) pss_nil) (pss_one (ps_ret (pe_tup (pa_cons pe_str (pa_cons (pe_call GTk hr1 (by rfl) BTk.at_ BTk.fn.kp BTk.bd .nil pass0 (pa_cons (pv 0) (pa_cons (pe_callB call_len_seq (by rfl) M.len boot_len (pa_cons (pv 2) pa_nil)) pa_nil))) (pa_cons (pe_ix (r := rIxL K) ix_list (pe_lst (pa_cons pe_str (pa_cons pe_str pa_nil))) (pe_call GTk hr1 (by rfl) BTk.at_ BTk.fn.kp BTk.bd .nil pass0 (pa_cons (pv 0) (pa_cons pe_int pa_nil))) (fun _ _ => rfl)) pa_nil)))))))))), ?_⟩
    obtain ⟨l, a, h1, h2, h3⟩ := id hh
    refine ⟨_, rfl, h, _, rfl, SqT.of h1, rfl, _, _, rfl, _, _, rfl, rfl, ?_⟩
    refine ⟨_, rfl, r, sc, ns, 5, rfl, by decide, by decide, R0, fun H1 wy k1 R1 hwy => ?_⟩
    have nk1 := NK.keep R0 k1
    have h2 := h2.nk nk1
    have h3 := h3.nk nk1
    have few := ok.co.few
    have fewS := ok.so.few
    have okN : ∀ c ∈ S.2, PyData.strOk c.name = true := fun c hc => namesOk ok.co _ (List.mem_map_of_mem hc)
    refine gname_to ?_; dsimp only
    refine viaT (fun t H2 => Same H1 H2 ∧ (t = false → S.2 ≠ [])) (fun R hR => ?_) ?_
    · refine ⟨_, rfl, _, _, rfl, rfl, _, rfl, ?_⟩
      by_cases hw : ((wy : Nat) : Int) < 2
      · rw [decide_eq_true hw]
        exact iteT (hR true H1 ⟨fun _ _ e => e, fun z => nomatch z⟩)
      rw [decide_eq_false hw]
      refine iteF ⟨_, rfl, by show 0 ≤ sizeLine; decide, fun e he => ?_⟩
      have s2 := sameNew he (.tup [])
      refine ⟨carsD S.2, .tuple [], dp_cars (h3.same s2), .tup (SqT.of upd_same) .nil, (shp_cars okN).ok (by decide), rfl, _, rfl, ?_⟩
      rw [cars_nil]
      exact hR _ _ ⟨s2, fun z => of_decide_eq_false z⟩
    rintro t H2 ⟨s2, hne⟩
    have R2 := R1.same s2
    have k2 := k1.trans (KeepB.of s2)
    have h22 := h2.ext (ExtN.same s2)
    have h32 := h3.same s2
    clear h2 h3 nk1 s2 R1 k1
    obtain ⟨cs, c1, c2, c3⟩ := id h32
    have hcs : (cs.map V.ref).length = S.2.length := by rw [List.length_map, c2]
    cases t with
    | true =>
      refine iteT ?_
      -- the least start
      refine seq_cut (fun σ' H' => ∃ m : Nat, (∀ c, S.2.getLast? = some c → c.start ≤ ((m : Nat) : Int)) ∧ m ≤ b ∧ σ' = [some (.ref r), some (.ref h), some (.ref l), some (.ref a), some (.int ((wy : Nat) : Int)), some (.int ((m : Nat) : Int)), none, none] ∧ Same H2 H') (fun nx done => ?_) ?_
      · refine ⟨_, rfl, by show 0 ≤ sizeLine; decide, fun e he => ?_⟩
        have s3 := sameNew he (.tup [])
        refine ⟨carsD S.2, .tuple [], dp_cars (h32.same s3), .tup (SqT.of upd_same) .nil, (shp_cars okN).ok (by decide), rfl, _, rfl, ?_⟩
        rw [cars_nil]
        cases hc : S.2.getLast? with
        | none =>
          have e0 : S.2 = [] := List.getLast?_eq_none_iff.mp hc
          rw [decide_eq_true e0]
          exact iteF (done _ _ ⟨0, fun c z => (by rw [hc] at z; cases z), by omega, rfl, s3⟩)
        | some c =>
          obtain ⟨pre, hp⟩ := List.getLast?_eq_some_iff.mp hc
          have e0 : ¬ S.2 = [] := fun z => by rw [z] at hc; cases hc
          have hlen : S.2.length = pre.length + 1 := by rw [hp, List.length_append]; rfl
          have hci : S.2[pre.length]? = some c := by rw [hp, List.getElem?_append_right (Nat.le_refl _), Nat.sub_self]; rfl
          obtain ⟨tc, ht⟩ : ∃ t, cs[pre.length]? = some t := ⟨_, List.getElem?_eq_getElem (by omega)⟩
          have cm := List.mem_of_getElem? hci
          have l1 := (le c cm).1
          have l2 := (ok.co.all c cm).s0
          have em : c.start = ((c.start.toNat : Nat) : Int) := by omega
          rw [decide_eq_false e0]
          refine iteT ⟨_, rfl, _, rfl, a, _, _, .ref tc, rfl, rfl, SqT.of (s3 _ _ c1), atI_lst (by rw [hcs, hlen]) (map_atZ V.ref ht), tc, _, ((1 : Nat) : Int), .int ((c.start.toNat : Nat) : Int), rfl, rfl, SqT.of (s3 _ _ (c3 _ tc c ht hci)), ?_, ?_⟩
          · rw [← em]
            exact atI_nat rfl
          · exact done _ _ ⟨c.start.toNat, fun d z => (by rw [hc] at z; have z := Option.some.inj z; subst z; omega), by omega, rfl, s3⟩
      rintro σ3 H3 ⟨m, hm, hmb, rfl, s3⟩
      have R3 := R2.same s3
      have k3 := k2.trans (KeepB.of s3)
      refine ⟨_, rfl, r, sc, ns, 14, rfl, by decide, by decide, R3, fun H4 q k4 R4 hq => ?_⟩
      obtain ⟨ch, hch, ch1, ch2⟩ := letter14 q hq
      refine ⟨_, _, ch, rfl, rfl, by show 14 ≤ sizeLine; decide, hch, ?_⟩
      refine ⟨_, rfl, _, rfl, _, rfl, r, sc, ns, 9, rfl, by decide, by decide, R4, fun H5 q5 k5 R5 hq5 => ⟨_, _, rfl, rfl, ?_⟩⟩
      refine ⟨_, rfl, r, sc, ns, 9, rfl, by decide, by decide, R5, fun H6 q6 k6 R6 hq6 => ⟨_, _, rfl, rfl, by show 4 ≤ sizeLine; decide, fun t ht => ?_⟩⟩
      have s7 := sameNew ht (.tup (Op.join ⟨#[ch]⟩ (m + q5) (1 + q6)).vs)
      refine k _ t (.join ⟨#[ch]⟩ (m + q5) (1 + q6)) (k3.trans (k4.trans (k5.trans (k6.trans (KeepB.of s7))))) (R6.same s7) upd_same (fun v hv => ?_) ⟨name_one ch1 ch2, fun c hc => ?_, by omega, by omega, by omega⟩ (fun S' v he c hc => ?_)
      · rcases List.mem_cons.mp hv with rfl | hv
        · exact .s (by decide +kernel)
        rcases List.mem_cons.mp hv with rfl | hv
        · exact .s (by unfold PyData.strOk; rw [Array.all_eq_true_iff_forall_mem]; intro x hx; have : x = ch := by simpa using hx
                       simp; omega)
        rcases List.mem_cons.mp hv with rfl | hv
        · exact .i _
        · rw [List.mem_singleton.mp hv]
          exact .i _
      · have := hm c hc
        omega
      · rw [step_join] at he
        split at he
        · cases he
        split at he
        · cases he
        cases he
        rcases List.mem_append.mp hc with hc | hc
        · have := (le c hc).1
          exact ⟨by omega, (le c hc).2⟩
        · rw [List.mem_singleton.mp hc]
          refine ⟨?_, fun z => ?_⟩
          · show (((m + q5 : Nat)) : Int) ≤ _
            omega
          · have z : (⟨#[ch]⟩ : Str) = "zz" := z
            have z2 := congrArg (fun s : Str => s.cps.size) z
            have z3 : (1 : Nat) = 2 := z2
            omega
    | false =>
      have hne := hne rfl
      refine iteF ?_
      have le8 : ∀ c ∈ S.2, c.start ≤ ((b + 8 : Nat) : Int) ∧ c.name ≠ "zz" := fun c hc => ⟨by have := (le c hc).1; omega, (le c hc).2⟩
      refine ⟨_, rfl, rfl, _, rfl, ?_⟩
      by_cases hw : V.int ((wy : Nat) : Int) = V.int 2
      · rw [decide_eq_true hw]
        refine iteT ⟨_, rfl, a, rfl, ⟨_, SqT.of c1⟩, fun D hD => ?_⟩
        refine lc_it walk_tup (fun i H3 => Same H2 H3 ∧ H3 D = some (.lst (((S.2.take i).map (·.name)).map V.str))) ⟨sameNew hD _, upd_same⟩ (fun i H3 _ ⟨k1, _⟩ => SqT.of (k1 _ _ c1)) ?_ ?_
        · rintro i y Hz H3 hi ⟨k1, hD1⟩ ⟨e, hy⟩
          subst e
          obtain ⟨u, hu, rfl⟩ : ∃ t, cs[i]? = some t ∧ y = V.ref t := by
            rw [List.getElem?_map] at hy
            obtain ⟨t, z1, z2⟩ := Option.map_eq_some_iff.mp hy
            exact ⟨t, z1, z2.symm⟩
          rw [hcs] at hi
          obtain ⟨c, hc⟩ : ∃ c, S.2[i]? = some c := ⟨_, List.getElem?_eq_getElem hi⟩
          refine ⟨rfl, yes_of ⟨_, rfl, u, _, ((0 : Nat) : Int), .str c.name, rfl, rfl, SqT.of (k1 _ _ (c3 i u c hu hc)), atI_nat rfl, _, hD1, ?_, fun b o e => by rw [upd_ne (ne_of_none e hD)]; exact k1 _ _ e, ?_⟩⟩
          · rw [List.length_map, List.length_map, List.length_take]
            exact small1000 (by omega)
          · rw [upd_same, tk1 hc, List.map_append, List.map_append]
            rfl
        rintro H3 ⟨s3, hD3⟩
        rw [hcs, List.take_length] at hD3
        refine ⟨by show 1 ≤ sizeLine; decide, fun z hz => ?_⟩
        have s4 := sameNew hz (.lst [V.str "zz"])
        refine ⟨D, z, _, _, rfl, rfl, s4 _ _ hD3, upd_same, Nat.le_of_lt (small1000 (by rw [List.length_map, List.length_map]; show S.2.length + 1 ≤ 1000; omega)), fun y hy => ?_⟩
        have s5 := sameNew hy (.lst ((S.2.map (·.name)).map V.str ++ [V.str "zz"]))
        have hy5 : upd (upd H3 z (.lst [V.str "zz"])) y (.lst ((S.2.map (·.name)).map V.str ++ [V.str "zz"])) y = some (.lst ((names S.2 ++ [("zz" : Str)]).map V.str)) := by rw [upd_same, List.map_append]; rfl
        have s35 := s3.trans (s4.trans s5)
        have R5 := R2.same s35
        have c15 := s35 _ _ c1
        generalize upd (upd H3 z (.lst [V.str "zz"])) y (.lst ((S.2.map (·.name)).map V.str ++ [V.str "zz"])) = H5 at s35 hy5 R5 c15 ⊢
        refine ⟨_, rfl, _, rfl, a, _, rfl, .inr (SqT.of c15), _, _, rfl, rfl, r, sc, ns, S.2.length + 1, by rw [hcs]; rfl, by omega, by omega, R5, fun H6 q k6 R6 hq => ?_⟩
        have hy6 := NK.keep R5 k6 _ _ hy5 (.txts _)
        obtain ⟨n, hn⟩ : ∃ n, (names S.2 ++ [("zz" : Str)])[q]? = some n := ⟨_, List.getElem?_eq_getElem (by rw [List.length_append, show (names S.2).length = S.2.length by unfold names; rw [List.length_map]]; exact hq)⟩
        have hnk : PyData.strOk n = true := by
          rcases get_snoc hn with ⟨_, e⟩ | ⟨_, e⟩
          · exact namesOk ok.co n (List.mem_of_getElem? e)
          · rw [← e]
            decide +kernel
        refine ⟨y, _, _, .str n, rfl, rfl, SqL.of hy6, atI_nat (map_atZ V.str hn), by show 2 ≤ sizeLine; decide, fun t ht => ?_⟩
        have s7 := sameNew ht (.tup (Op.rem n).vs)
        refine k _ t (.rem n) (k2.trans ((KeepB.of s35).trans (k6.trans (KeepB.of s7)))) (R6.same s7) upd_same (fun v hv => ?_) True.intro (fun S' v he c hc => ?_)
        · rcases List.mem_cons.mp hv with rfl | hv
          · exact .s (by decide +kernel)
          · rw [List.mem_singleton.mp hv]
            exact .s hnk
        · rw [step_rem] at he
          split at he
          · cases he
            exact le8 c (List.mem_filter.mp hc).1
          · cases he
      · rw [decide_eq_false hw]
        refine iteF ?_
        obtain ⟨ls, l1, l2, l3⟩ := id h22
        have hls : (ls.map V.ref).length = S.1.length := by rw [List.length_map, l2]
        have hpos : 1 ≤ S.1.length := by
          cases e : S.1 with
          | nil => exact absurd e ok.so.ne
          | cons _ _ => exact Nat.succ_le_succ (Nat.zero_le _)
        refine ⟨_, rfl, _, rfl, l, _, rfl, .inl (SqL.of l1), r, sc, ns, S.1.length, by rw [hls]; rfl, hpos, by omega, R2, fun H3 q k3 R3 hq => ?_⟩
        refine ⟨by show 2 ≤ sizeLine; decide, fun z hz => ?_⟩
        have s4 := sameNew hz (.lst [V.str "narrow", V.str "wide"])
        have R4 := R3.same s4
        refine ⟨_, rfl, r, sc, ns, 2, rfl, by decide, by decide, R4, fun H5 q5 k5 R5 hq5 => ?_⟩
        have hz5 := NK.keep R4 k5 _ _ (upd_same (H := H3) (a := z) (o := .lst ((["narrow", "wide"] : List Str).map V.str))) (.txts _)
        obtain ⟨bb, hbb⟩ : ∃ bb : Bool, ([V.str "narrow", V.str "wide"] : List V)[q5]? = some (.str (kindS bb)) := by
          match q5, hq5 with
          | 0, _ => exact ⟨false, rfl⟩
          | 1, _ => exact ⟨true, rfl⟩
        refine ⟨z, _, _, .str (kindS bb), rfl, rfl, SqL.of hz5, atI_nat hbb, by show 3 ≤ sizeLine; decide, fun t ht => ?_⟩
        have s7 := sameNew ht (.tup (Op.kind q bb).vs)
        refine k _ t (.kind q bb) (k2.trans (k3.trans ((KeepB.of s4).trans (k5.trans (KeepB.of s7))))) (R5.same s7) upd_same (fun v hv => ?_) hq (fun S' v he c hc => ?_)
        · rcases List.mem_cons.mp hv with rfl | hv
          · exact .s (by decide +kernel)
          rcases List.mem_cons.mp hv with rfl | hv
          · exact .i _
          · rw [List.mem_singleton.mp hv]
            exact .s (kind_ok _)
        · cases he
          exact le8 c hc
end
end Sl

set_option Elab.async false
set_option linter.all false
set_option maxRecDepth 100000
set_option maxHeartbeats 4000000
namespace Sl
open PySem PySem.Spec L2 OwnR LamX
/-! ### _law_does -/
def erV : Er → List V
  | .name => [.str "name"]
  | .many => [.str "many"]
  | .car n => [.str "car", .str n]
theorem tkl_len (secs : List Sec) (cars : List Car) (i : Nat) (n : Str) : (tkl secs cars i n).length = i + 1 := by unfold tkl; rw [List.length_map, List.length_range]
theorem tkl_end (secs : List Sec) (cars : List Car) (i : Nat) (n : Str) : (tkl secs cars i n)[i]? = some ((plcC secs cars i).tk n) := by
  unfold tkl
  rw [List.getElem?_map, List.getElem?_range (by omega)]
  rfl
/-- what a dict of ticks tells of a car's arrival -/
theorem TksAt.arr {H : Hp} {a : Addr} {S : St2} {n : Str} (h : TksAt H a S.1 S.2) (hn : n ∈ names S.2) : ∃ (kt : List (Key × V)) (d : Addr) (xs : List V), H a = some (.dK kt) ∧ valV kt (Sum.inr n : Key) = some (.ref d) ∧ H d = some (.lst xs) ∧ atI xs (-1) = some (.int (arrL S n)) := by
  obtain ⟨kt, h1, _, h2⟩ := h
  obtain ⟨c, hc, rfl⟩ := List.mem_map.mp hn
  obtain ⟨d, d1, d2⟩ := h2 c hc
  exact ⟨kt, d, _, h1, d1, d2, atI_lst (m := S.1.length) (by rw [List.length_map, tkl_len]) (map_atZ V.int (tkl_end _ _ _ _))⟩
theorem Tabs.keepD {T : List (Addr × Str)} {H H' : Hp} (t : Tabs T H) (e : ∀ b o, H b = some o → (∀ kv, o ≠ .dK kv) → H' b = some o) : Tabs T H' := fun p hp => by
  obtain ⟨ps, h1, h2, h3⟩ := t p hp
  refine ⟨ps, e _ _ h1 fun xs z => (nomatch z), h2, fun pos cv hc => ?_⟩
  obtain ⟨c, e1, e2⟩ := h3 pos cv hc
  exact ⟨c, e1, e _ _ e2 fun xs z => by unfold CodeO at z; cases z⟩
theorem HAt.keepD {H H' : Hp} {h : Addr} {S : St2} (hh : HAt H h S) (e : ∀ b o, H b = some o → (∀ kv, o ≠ .dK kv) → H' b = some o) : HAt H' h S := by
  obtain ⟨l, a, h1, ⟨ls, l1, l2, l3⟩, ⟨cs, c1, c2, c3⟩⟩ := hh
  exact ⟨l, a, e _ _ h1 (fun _ z => nomatch z), ⟨ls, e _ _ l1 (fun _ z => nomatch z), l2, fun i t c e1 e2 => e _ _ (l3 i t c e1 e2) (fun _ z => nomatch z)⟩, ⟨cs, e _ _ c1 (fun _ z => nomatch z), c2, fun i t c e1 e2 => e _ _ (c3 i t c e1 e2) (fun _ z => nomatch z)⟩⟩
theorem HAt.same {H H' : Hp} {h : Addr} {S : St2} (hh : HAt H h S) (s : Same H H') : HAt H' h S := by
  obtain ⟨l, a, h1, h2, h3⟩ := hh
  exact ⟨l, a, s _ _ h1, h2.ext (ExtN.same s), h3.same s⟩
theorem HAt.ext {H H' : Hp} {h : Addr} {S : St2} (hh : HAt H h S) (s : ExtN H H') : HAt H' h S := by
  obtain ⟨l, a, h1, h2, h3⟩ := hh
  exact ⟨l, a, ExtN.tup s h1, h2.ext s, h3.ext s⟩
section
variable {P : Program} {w : World} {K : PySem.W.Frag} {mg : Str → Option Value} {base : Heap}
def spDoes (T : List (Addr × Str)) : Sp := fun vs H Q _ => ∃ (h d : Addr) (S : St2) (o : Op), vs = [.ref h, .ref d] ∧ HAt H h S ∧ H d = some (.tup o.vs) ∧ StOk S ∧ OpOk S o ∧ Tabs T H ∧
  (∀ e, stepO S o = .inl e → ∀ H' t w, ExtN H H' → Tabs T H' → H' t = some (.tup [.ref h, .non, .ref w]) → H' w = some (.tup (erV e)) → Q (.ref t) H') ∧
  (∀ S' r, stepO S o = .inr (S', r) → ∀ H' t h' v, ExtN H H' → Tabs T H' → H' t = some (.tup [.ref h', v, .non]) → HAt H' h' S' → RsAt H' v r → Q (.ref t) H')
def nDoes : List Str := ["_law_h", "_law_deed_here", "_law_sections_here", "_law_cars", "_law_names", "_law_new", "_law_before", "_law_after", "_law_found", "_law_name", "_law_car"]
theorem scDoes : FnScope nDoes ["_law_h", "_law_deed_here"] (defScope sDoes) := ⟨rfl, rfl, rfl, by decide +kernel, rfl, by decide +kernel, by decide +kernel⟩
theorem ok_does {f fL fDr cDr : Addr} {fd dL dDr : FuncData} {T : List (Addr × Str)} {kD : Nat} (F : Fun K "_law_does" "_law_does" sDoes f fd) (M : Mg mg) (BLe : Fb K mg "_law_less" sLess ["_law_cars", "_law_name"] fL dL) (GLe : FnOk P w K mg base CX0 1 fL dL ["_law_cars", "_law_name"] spLess)
    (BDr : FbC K mg "_law_driven" sDriven ["_law_sections_here", "_law_cars"] fDr dDr cDr) (GDr : FnOk P w K mg base CX0 3 fDr dDr ["_law_sections_here", "_law_cars"] (spDriven T)) : FnOk P w K mg base CX0 4 f fd ["_law_h", "_law_deed_here"] (spDoes T) := by
  refine F.ok scDoes (fun vs H Q E h => ?_) (fun cdv A outer s H vs Q E hr h => ?_)
  · obtain ⟨h, d, S, o, rfl, _⟩ := h
    rfl
  · obtain ⟨h, d, S, o, rfl, hh, hd, ok, oo, hT, kE, k⟩ := h
    have nd := scDoes.nd
    have hu := hu_of hr
    have hr1 : Room 1 (A.deeper (PyProof.Rows.envOfC "_law_does" (defScope sDoes) s.heap.objs.size f cdv)) := hr.mono (by decide)
    have hrD : Room 3 (A.deeper (PyProof.Rows.envOfC "_law_does" (defScope sDoes) s.heap.objs.size f cdv)) := hr.mono (by decide)
    refine ⟨_, (pss_cons (ps_asg (pv 0) (pg_tup rfl (pgs_cons (pg_name (i := 2) nd rfl (.inl rfl)) (pgs_cons (pg_name (i := 3) nd rfl (.inl rfl)) pgs_nil)))) (pss_cons (ps_setLc (i := 4) (own := [("_law_car", 10)]) (g := gName 10) (tt := tYes) (te := tOp (rIxT K) (tVar 10) (tC (.int 0))) (by rfl) nd rfl rfl (sw_true rfl rfl rfl (by decide +kernel)) (pi_tup (pv 3)) (blkOk_by (N := nDoes) (sc := defScope sDoes) (by decide +kernel)) (fun _ _ _ _ _ => (pg_name (i := 10) nd rfl (Or.inl rfl))) (fun _ _ _ _ _ => pts_nil) (fun _ _ _ _ _ => (pe_ix (r := rIxT K) ix_tup (pv 10) pe_int (fun _ _ => rfl)))) (pss_cons (ps_if (pt_cmpR op_eq (pe_ix (r := rIxT K) ix_tup (pv 1) pe_int (fun _ _ => rfl)) pe_str (nomark _)) (pss_cons (ps_if (pt_cmpR op_in_seq (pe_ix (r := rIxT K) ix_tup (pv 1) pe_int (fun _ _ => rfl)) (pv 4) (by rfl)) (pss_one (ps_ret (pe_tup (pa_cons (pv 0) (pa_cons pe_non (pa_cons (pe_tup (pa_cons pe_str pa_nil)) pa_nil)))))) pss_nil) (pss_cons (ps_if (pt_cmpR op_eq (pe_callB call_len_seq (by rfl) M.len boot_len (pa_cons (pv 3) pa_nil)) pe_int (nomark _)) (pss_one (ps_ret (pe_tup (pa_cons (pv 0) (pa_cons pe_non (pa_cons (pe_tup (pa_cons pe_str pa_nil)) pa_nil)))))) pss_nil) (pss_cons (ps_set (i := 5) nd rfl (.inl rfl) (pe_tup (pa_cons (pv 2) (pa_cons (pe_op op_catA (pv 3) (pe_tup (pa_cons (pe_slice sl_tup (pv 1) (po_some pe_int) po_none) pa_nil))) pa_nil)))) (pss_one (ps_ret (pe_tup (pa_cons (pv 5) (pa_cons (pe_ix (r := rIxL K) ix_list (pe_dget hu (pe_ix (r := rIxT K) ix_tup (pe_call GDr hrD (by rfl) BDr.at_ BDr.fn.kp BDr.bd .nil pass0 (pa_cons (pe_ix (r := rIxT K) ix_tup (pv 5) pe_int (fun _ _ => rfl)) (pa_cons (pe_ix (r := rIxT K) ix_tup (pv 5) pe_int (fun _ _ => rfl)) pa_nil))) pe_int (fun _ _ => rfl)) (pe_ix (r := rIxT K) ix_tup (pv 1) pe_int (fun _ _ => rfl)) (fun _ _ => rfl)) (pe_un un_neg pe_int) (fun _ _ => rfl)) (pa_cons pe_non pa_nil))))))))) pss_nil) (pss_cons (ps_if (pt_cmpR op_eq (pe_ix (r := rIxT K) ix_tup (pv 1) pe_int (fun _ _ => rfl)) pe_str (nomark _)) (pss_cons (ps_if (pt_cmpR op_notIn_seq (pe_ix (r := rIxT K) ix_tup (pv 1) pe_int (fun _ _ => rfl)) (pv 4) (by rfl)) (pss_one (ps_ret (pe_tup (pa_cons (pv 0) (pa_cons pe_non (pa_cons (pe_tup (pa_cons pe_str (pa_cons (pe_ix (r := rIxT K) ix_tup (pv 1) pe_int (fun _ _ => rfl)) pa_nil))) pa_nil)))))) pss_nil) (pss_one (ps_set (i := 5) nd rfl (.inl rfl) (pe_tup (pa_cons (pv 2) (pa_cons (pe_call GLe hr1 (by rfl) BLe.at_ BLe.fn.kp BLe.bd .nil pass0 (pa_cons (pv 3) (pa_cons (pe_ix (r := rIxT K) ix_tup (pv 1) pe_int (fun _ _ => rfl)) pa_nil))) pa_nil)))))) (pss_one (ps_set (i := 5) nd rfl (.inl rfl) (pe_tup (pa_cons (pe_op op_cat (pe_op op_cat (pe_slice sl_list (pv 2) po_none (po_some (pe_ix (r := rIxT K) ix_tup (pv 1) pe_int (fun _ _ => rfl)))) (pe_lst (pa_cons (pe_tup (pa_cons (pe_ix (r := rIxT K) ix_tup (pv 1) pe_int (fun _ _ => rfl)) (pa_cons (pe_ix (r := rIxT K) ix_tup (pe_ix (r := rIxL K) ix_list (pv 2) (pe_ix (r := rIxT K) ix_tup (pv 1) pe_int (fun _ _ => rfl)) (fun _ _ => rfl)) pe_int (fun _ _ => rfl)) pa_nil))) pa_nil))) (pe_slice sl_list (pv 2) (po_some (pe_op op_add (pe_ix (r := rIxT K) ix_tup (pv 1) pe_int (fun _ _ => rfl)) pe_int)) po_none)) (pa_cons (pv 3) pa_nil)))))) (pss_cons (ps_par3 (i := 6) (j := 7) (l := 8) rfl nd rfl rfl rfl (by decide) (by decide) (by decide) rfl rfl rfl (pa_cons (pe_ix (r := rIxT K) ix_tup (pe_call GDr hrD (by rfl) BDr.at_ BDr.fn.kp BDr.bd .nil pass0 (pa_cons (pe_ix (r := rIxT K) ix_tup (pv 0) pe_int (fun _ _ => rfl)) (pa_cons (pe_ix (r := rIxT K) ix_tup (pv 0) pe_int (fun _ _ => rfl)) pa_nil))) pe_int (fun _ _ => rfl)) (pa_cons (pe_ix (r := rIxT K) ix_tup (pe_call GDr hrD (by rfl) BDr.at_ BDr.fn.kp BDr.bd .nil pass0 (pa_cons (pe_ix (r := rIxT K) ix_tup (pv 5) pe_int (fun _ _ => rfl)) (pa_cons (pe_ix (r := rIxT K) ix_tup (pv 5) pe_int (fun _ _ => rfl)) pa_nil))) pe_int (fun _ _ => rfl)) (pa_cons pe_dnewK pa_nil))) rfl) (pss_cons (ps_lock (ps_for PassesOwn.never rfl (pi_keys (pv 7)) (pg_name (i := 9) nd rfl (.inl rfl)) (pss_one (ps_if (pt_cmpR op_ne (pe_ix (r := rIxL K) ix_list (pe_dget hu (pv 6) (pv 9) (fun _ _ => rfl)) (pe_un un_neg pe_int) (fun _ _ => rfl)) (pe_ix (r := rIxL K) ix_list (pe_dget hu (pv 7) (pv 9) (fun _ _ => rfl)) (pe_un un_neg pe_int) (fun _ _ => rfl)) (nomark _)) (pss_one (ps_dput hu (pv 8) (pv 9) (pe_tup (pa_cons (pe_ix (r := rIxL K) ix_list (pe_dget hu (pv 6) (pv 9) (fun _ _ => rfl)) (pe_un un_neg pe_int) (fun _ _ => rfl)) (pa_cons (pe_ix (r := rIxL K) ix_list (pe_dget hu (pv 7) (pv 9) (fun _ _ => rfl)) (pe_un un_neg pe_int) (fun _ _ => rfl)) pa_nil))) rfl)) pss_nil)))) (pss_one (ps_ret (pe_tup (pa_cons (pv 5) (pa_cons (pv 8) (pa_cons pe_non pa_nil)))))))))))), ?_⟩
    obtain ⟨l, a, h1, h2, h3⟩ := id hh
    obtain ⟨cs, c1, c2, c3⟩ := id h3
    have hcs : (cs.map V.ref).length = S.2.length := by rw [List.length_map, c2]
    have few := ok.co.few
    have fewS := ok.so.few
    refine ⟨_, rfl, h, _, rfl, SqT.of h1, rfl, _, _, rfl, _, _, rfl, rfl, ?_⟩
    refine ⟨_, rfl, a, rfl, ⟨_, SqT.of c1⟩, fun D hD => ?_⟩
    refine lc_it walk_tup (fun i H3 => Same H H3 ∧ H3 D = some (.lst (((S.2.take i).map (·.name)).map V.str))) ⟨sameNew hD _, upd_same⟩ (fun i H3 _ ⟨k1, _⟩ => SqT.of (k1 _ _ c1)) ?_ ?_
    · rintro i y Hz H3 hi ⟨k1, hD1⟩ ⟨e, hy⟩
      subst e
      obtain ⟨u, hu, rfl⟩ : ∃ t, cs[i]? = some t ∧ y = V.ref t := by
        rw [List.getElem?_map] at hy
        obtain ⟨t, z1, z2⟩ := Option.map_eq_some_iff.mp hy
        exact ⟨t, z1, z2.symm⟩
      rw [hcs] at hi
      obtain ⟨c, hc⟩ : ∃ c, S.2[i]? = some c := ⟨_, List.getElem?_eq_getElem hi⟩
      refine ⟨rfl, yes_of ⟨_, rfl, u, _, ((0 : Nat) : Int), .str c.name, rfl, rfl, SqT.of (k1 _ _ (c3 i u c hu hc)), atI_nat rfl, _, hD1, ?_, fun b o e => by rw [upd_ne (ne_of_none e hD)]; exact k1 _ _ e, ?_⟩⟩
      · rw [List.length_map, List.length_map, List.length_take]
        exact small1000 (by omega)
      · rw [upd_same, tk1 hc, List.map_append, List.map_append]
        rfl
    rintro H1 ⟨s1, hD1⟩
    rw [hcs, List.take_length] at hD1
    have inN : ∀ n : Str, inV (V.str n) ((S.2.map (·.name)).map V.str) = decide (n ∈ names S.2) := fun n => inV_str _ _
    have hd1 := s1 _ _ hd
    have hh1 := hh.same s1
    have c11 := s1 _ _ c1
    have h21 := h2.ext (ExtN.same s1)
    have h31 := h3.same s1
    have hT1 := hT.ext s1
    refine gname_to ?_; dsimp only
    -- it joins
    refine seq_cut (fun σ' H' => (∀ n st pc, o ≠ .join n st pc) ∧ σ' = [some (.ref h), some (.ref d), some (.ref l), some (.ref a), some (.ref D), none, none, none, none, none, none] ∧ H' = H1) (fun nx done => ?_) ?_
    · cases o with
      | rem n =>
        refine ⟨_, rfl, d, _, ((0 : Nat) : Int), .str "remove", rfl, rfl, SqT.of hd1, atI_nat rfl, rfl, _, rfl, ?_⟩
        rw [decide_eq_false (fun z => op_ne1 (V.str.inj z))]
        exact iteF (done _ _ ⟨fun _ _ _ z => (by cases z), rfl, rfl⟩)
      | kind i b =>
        refine ⟨_, rfl, d, _, ((0 : Nat) : Int), .str "set_kind", rfl, rfl, SqT.of hd1, atI_nat rfl, rfl, _, rfl, ?_⟩
        rw [decide_eq_false (fun z => op_ne2 (V.str.inj z))]
        exact iteF (done _ _ ⟨fun _ _ _ z => (by cases z), rfl, rfl⟩)
      | join n st pc =>
        refine ⟨_, rfl, d, _, ((0 : Nat) : Int), .str "join", rfl, rfl, SqT.of hd1, atI_nat rfl, rfl, _, rfl, ?_⟩
        rw [decide_eq_true rfl]
        refine iteT ⟨_, rfl, d, _, ((1 : Nat) : Int), .str n, rfl, rfl, SqT.of hd1, atI_nat rfl, _, rfl, D, _, rfl, .inl (SqL.of hD1), rfl, flat_strs _, _, rfl, ?_⟩
        show if (inV (V.str n) ((S.2.map (·.name)).map V.str)) = true then _ else _
        rw [inN n]
        by_cases hn : n ∈ names S.2
        · rw [decide_eq_true hn]
          refine iteT ⟨_, rfl, by show 1 ≤ sizeLine; decide, fun w1 hw1 => ⟨by show 3 ≤ sizeLine; decide, fun t ht => ?_⟩⟩
          have a1 := sameNew hw1 (.tup [V.str "name"])
          have a2 := sameNew ht (.tup [V.ref h, .non, V.ref w1])
          exact kE .name (by rw [step_join, if_pos hn]) _ t w1 (ExtN.same (s1.trans (a1.trans a2))) (hT1.ext (a1.trans a2)) upd_same (a2 _ _ upd_same)
        rw [decide_eq_false hn]
        refine iteF ⟨_, rfl, a, _, rfl, .inr (SqT.of c11), rfl, _, rfl, ?_⟩
        rw [hcs]
        by_cases h10 : S.2.length = 10
        · rw [h10]
          refine iteT ⟨_, rfl, by show 1 ≤ sizeLine; decide, fun w1 hw1 => ⟨by show 3 ≤ sizeLine; decide, fun t ht => ?_⟩⟩
          have a1 := sameNew hw1 (.tup [V.str "many"])
          have a2 := sameNew ht (.tup [V.ref h, .non, V.ref w1])
          exact kE .many (by rw [step_join, if_neg hn, if_pos h10]) _ t w1 (ExtN.same (s1.trans (a1.trans a2))) (hT1.ext (a1.trans a2)) upd_same (a2 _ _ upd_same)
        rw [decide_eq_false (by intro z; have := V.int.inj z; exact h10 (by omega))]
        refine iteF ?_
        have er : stepO S (.join n st pc) = .inr ((S.1, S.2 ++ [newC n st pc]), .tick (arrL (S.1, S.2 ++ [newC n st pc]) n)) := by rw [step_join, if_neg hn, if_neg h10]
        have sok := step_ok ok oo er
        have hmem : n ∈ names (S.2 ++ [newC n st pc]) := by rw [names_app]; exact List.mem_append_right _ List.mem_cons_self
        -- what is new
        dsimp only [tNext]
        refine seq_cut (fun σ' H' => ∃ nw : Addr, σ' = [some (.ref h), some (.ref d), some (.ref l), some (.ref a), some (.ref D), some (.ref nw), none, none, none, none, none] ∧ Same H1 H' ∧ HAt H' nw (S.1, S.2 ++ [newC n st pc])) (fun nx2 done2 => ?_) ?_
        · refine ⟨_, rfl, _, rfl, _, rfl, 1, rfl, d, _, rfl, SqT.of hd1, fun z => ?_, fun z hz => ?_⟩
          · have z1 := z.1
            rw [show (some (1 : Int)) = some ((1 : Nat) : Int) from rfl, HT.sIx_nat] at z1
            exact absurd z1 (by show min 1 4 ≠ 0; decide)
          rw [show (some (1 : Int)) = some ((1 : Nat) : Int) from rfl, cut_from (by show 1 ≤ 4; decide)]
          have a1 := sameNew hz (.tup ((Op.join n st pc).vs.drop 1))
          have hz1 : upd H1 z (.tup ((Op.join n st pc).vs.drop 1)) z = some (.tup (newC n st pc).vs) := upd_same
          refine ⟨by show 1 ≤ sizeLine; decide, fun u hu2 => ?_⟩
          have a2 := sameNew hu2 (.tup [V.ref z])
          have a12 := a1.trans a2
          have fin : ∀ (q : Addr) (H7 : Hp), Same H1 H7 → CarsAt H7 q (S.2 ++ [newC n st pc]) → ∀ R : VK, (∀ (nw : Addr) (H8 : Hp), Same H1 H8 → HAt H8 nw (S.1, S.2 ++ [newC n st pc]) → R (.ref nw) H8) → [V.ref l, V.ref q].length ≤ sizeLine ∧ ∀ p, H7 p = none → R (.ref p) (upd H7 p (.tup [V.ref l, V.ref q])) := fun q H7 s7 ct R hR => ⟨by show 2 ≤ sizeLine; decide, fun nw hnw => by
            have s8 := sameNew hnw (.tup [V.ref l, V.ref q])
            exact hR nw _ (s7.trans s8) ⟨l, q, upd_same, h21.ext (ExtN.same (s7.trans s8)), ct.same s8⟩⟩
          refine ⟨a, u, _, _, rfl, rfl, SqT.of (a12 _ _ c11), SqT.of upd_same, Nat.le_trans (m := 1000) (by rw [hcs]; show S.2.length + 1 ≤ 1000; omega) (by decide), fun nil => ?_, fun _ z => (nomatch z), fun ne _ q hq => ?_⟩
          · have ts0 : cs = [] := by cases cs with | nil => rfl | cons _ _ => cases nil
            refine fin u _ a12 (snocC_at (c := newC n st pc) c2 (fun i t c e1 e2 => a12 _ _ (s1 _ _ (c3 i t c e1 e2))) (a2 _ _ hz1) ?_) (fun y H8 => nx2 [some (.ref h), some (.ref d), some (.ref l), some (.ref a), some (.ref D), some y, none, none, none, none, none] H8) (fun nw H8 s8 hh8 => done2 _ _ ⟨nw, rfl, s8, hh8⟩)
            rw [upd_same, ts0]
            rfl
          · have a3 := sameNew hq (.tup (cs.map V.ref ++ [V.ref z]))
            have a13 := a12.trans a3
            exact fin q _ a13 (snocC_at (c := newC n st pc) c2 (fun i t c e1 e2 => a13 _ _ (s1 _ _ (c3 i t c e1 e2))) (a3 _ _ (a2 _ _ hz1)) upd_same) (fun y H8 => nx2 [some (.ref h), some (.ref d), some (.ref l), some (.ref a), some (.ref D), some y, none, none, none, none, none] H8) (fun nw H8 s8 hh8 => done2 _ _ ⟨nw, rfl, s8, hh8⟩)
        rintro σ2 H2 ⟨nw, rfl, s2, hh2⟩
        obtain ⟨l2, a2, g1, g2, g3⟩ := id hh2
        have hT2 := hT1.ext s2
        refine ⟨_, rfl, _, rfl, nw, _, ((0 : Nat) : Int), .ref l2, rfl, rfl, SqT.of g1, atI_nat rfl, _, rfl, nw, _, ((1 : Nat) : Int), .ref a2, rfl, rfl, SqT.of g1, atI_nat rfl, l2, a2, S.1, S.2 ++ [newC n st pc], rfl, g2, g3, sok.so, sok.co, hT2, fun H3 t tk od ld e3 T3 ht3 hk3 _ _ => ?_⟩
        obtain ⟨kt, dd, xs, b1, b2, b3, b4⟩ := TksAt.arr (S := (S.1, S.2 ++ [newC n st pc])) hk3 hmem
        refine ⟨t, _, ((0 : Nat) : Int), .ref tk, rfl, rfl, SqT.of ht3, atI_nat rfl, _, rfl, d, _, ((1 : Nat) : Int), .str n, rfl, rfl, SqT.of (ExtN.tup e3 (s2 _ _ hd1)), atI_nat rfl, tk, _, rfl, gS b1 b2, _, rfl, dd, xs, -1, _, rfl, rfl, SqL.of b3, b4, by show 3 ≤ sizeLine; decide, fun t4 ht4 => ?_⟩
        have s4 := sameNew ht4 (.tup [V.ref nw, V.int (arrL (S.1, S.2 ++ [newC n st pc]) n), .non])
        have e4 := e3.trans (ExtN.same s4)
        exact k _ _ er _ t4 nw _ ((ExtN.same (s1.trans s2)).trans e4) (T3.ext s4) upd_same (hh2.ext e4) rfl
    rintro σ2 H2 ⟨nj, rfl, rfl⟩
    -- it does not join
    refine seq_cut (fun σ' H' => ∃ (nw : Addr) (S' : St2), σ' = [some (.ref h), some (.ref d), some (.ref l), some (.ref a), some (.ref D), some (.ref nw), none, none, none, none, none] ∧ Same H2 H' ∧ HAt H' nw S' ∧ StOk S' ∧ (∀ n ∈ names S'.2, n ∈ names S.2) ∧ stepO S o = .inr (S', chgX S S')) (fun nx done => ?_) ?_
    · cases o with
      | join n st pc => exact absurd rfl (nj n st pc)
      | rem n =>
        refine ⟨_, rfl, d, _, ((0 : Nat) : Int), .str "remove", rfl, rfl, SqT.of hd1, atI_nat rfl, rfl, _, rfl, ?_⟩
        rw [decide_eq_true rfl]
        refine iteT ⟨_, rfl, d, _, ((1 : Nat) : Int), .str n, rfl, rfl, SqT.of hd1, atI_nat rfl, _, rfl, D, _, rfl, .inl (SqL.of hD1), rfl, flat_strs _, _, rfl, ?_⟩
        show if (!inV (V.str n) ((S.2.map (·.name)).map V.str)) = true then _ else _
        rw [inN n]
        by_cases hn : n ∈ names S.2
        · rw [decide_eq_true hn]
          refine iteF ⟨_, rfl, _, rfl, _, rfl, d, _, ((1 : Nat) : Int), .str n, rfl, rfl, SqT.of hd1, atI_nat rfl, a, S.2, n, rfl, h31, ok.co, fun H3 b s3 hb => ⟨by show 2 ≤ sizeLine; decide, fun nw hnw => ?_⟩⟩
          have s4 := sameNew hnw (.tup [V.ref l, V.ref b])
          exact done _ _ ⟨nw, (S.1, lessC S.2 n), rfl, s3.trans s4, ⟨l, b, upd_same, h21.ext (ExtN.same (s3.trans s4)), hb.same s4⟩, ⟨ok.so, less_ok ok.co n⟩, fun m hm => less_sub hm, by rw [step_rem, if_pos hn]⟩
        · rw [decide_eq_false hn]
          refine iteT ⟨_, rfl, _, rfl, d, _, ((1 : Nat) : Int), .str n, rfl, rfl, SqT.of hd1, atI_nat rfl, by show 2 ≤ sizeLine; decide, fun w1 hw1 => ⟨by show 3 ≤ sizeLine; decide, fun t ht => ?_⟩⟩
          have a1 := sameNew hw1 (.tup [V.str "car", V.str n])
          have a2 := sameNew ht (.tup [V.ref h, .non, V.ref w1])
          exact kE (.car n) (by rw [step_rem, if_neg hn]) _ t w1 (ExtN.same (s1.trans (a1.trans a2))) (hT1.ext (a1.trans a2)) upd_same (a2 _ _ upd_same)
      | kind i b =>
        refine ⟨_, rfl, d, _, ((0 : Nat) : Int), .str "set_kind", rfl, rfl, SqT.of hd1, atI_nat rfl, rfl, _, rfl, ?_⟩
        rw [decide_eq_false (fun z => op_ne3 (V.str.inj z))]
        refine iteF ?_
        obtain ⟨ls, l1, l2, l3⟩ := id h21
        have hls : (ls.map V.ref).length = S.1.length := by rw [List.length_map, l2]
        have hi : i < S.1.length := oo
        obtain ⟨tc, htc⟩ : ∃ tc, ls[i]? = some tc := ⟨_, List.getElem?_eq_getElem (by omega)⟩
        obtain ⟨sc, hsc⟩ : ∃ sc, S.1[i]? = some sc := ⟨_, List.getElem?_eq_getElem hi⟩
        have hDf : S.1.getD i (b, 1) = sc := by rw [List.getD_eq_getElem?_getD, hsc]; rfl
        refine ⟨_, rfl, _, rfl, d, _, ((1 : Nat) : Int), .int ((i : Nat) : Int), rfl, rfl, SqT.of hd1, atI_nat rfl, ((i : Nat) : Int), rfl, l, _, rfl, SqL.of l1, fun z1 hz1 => ?_⟩
        rw [cut_to (by rw [hls]; omega)]
        have a1 := sameNew hz1 (.lst ((ls.map V.ref).take i))
        refine ⟨_, rfl, d, _, ((2 : Nat) : Int), .str (kindS b), rfl, rfl, SqT.of (a1 _ _ hd1), atI_nat rfl, _, rfl, _, rfl, d, _, ((1 : Nat) : Int), .int ((i : Nat) : Int), rfl, rfl, SqT.of (a1 _ _ hd1), atI_nat rfl, l, _, _, .ref tc, rfl, rfl, SqL.of (a1 _ _ l1), atI_nat (map_atZ V.ref htc), tc, _, ((1 : Nat) : Int), .int ((sc.2 : Nat) : Int), rfl, rfl, SqT.of (a1 _ _ (l3 i tc sc htc hsc)), atI_nat rfl, by show 2 ≤ sizeLine; decide, fun v hv => ⟨by show 1 ≤ sizeLine; decide, fun y hy => ?_⟩⟩
        have a2 := sameNew hv (.tup [V.str (kindS b), V.int ((sc.2 : Nat) : Int)])
        have a3 := sameNew hy (.lst [V.ref v])
        have a13 := a1.trans (a2.trans a3)
        have hz13 := a3 _ _ (a2 _ _ (upd_same (H := H2) (a := z1) (o := .lst ((ls.map V.ref).take i))))
        have hv3 := a3 _ _ (upd_same (H := upd H2 z1 (.lst ((ls.map V.ref).take i))) (a := v) (o := .tup [V.str (kindS b), V.int ((sc.2 : Nat) : Int)]))
        have hy3 : upd (upd (upd H2 z1 (.lst ((ls.map V.ref).take i))) v (.tup [V.str (kindS b), V.int ((sc.2 : Nat) : Int)])) y (.lst [V.ref v]) y = some (.lst [V.ref v]) := upd_same
        generalize upd (upd (upd H2 z1 (.lst ((ls.map V.ref).take i))) v (.tup [V.str (kindS b), V.int ((sc.2 : Nat) : Int)])) y (.lst [V.ref v]) = H3 at a13 hz13 hv3 hy3 ⊢
        clear a1 a2 a3 hz1 hv hy
        refine ⟨z1, y, _, _, rfl, rfl, hz13, hy3, Nat.le_of_lt (small1000 (by rw [List.length_take]; show min i _ + 1 ≤ 1000; omega)), fun w hw => ?_⟩
        have a4 := sameNew hw (.lst ((ls.map V.ref).take i ++ [V.ref v]))
        have a14 := a13.trans a4
        refine ⟨_, rfl, _, rfl, d, _, ((1 : Nat) : Int), .int ((i : Nat) : Int), rfl, rfl, SqT.of (a14 _ _ hd1), atI_nat rfl, _, _, rfl, rfl, ((i : Nat) : Int) + 1, rfl, l, _, rfl, SqL.of (a14 _ _ l1), fun z2 hz2 => ?_⟩
        rw [show (some (((i : Nat) : Int) + 1)) = some ((i + 1 : Nat) : Int) from rfl, cut_from (by rw [hls]; omega)]
        have a5 := sameNew hz2 (.lst ((ls.map V.ref).drop (i + 1)))
        refine ⟨w, z2, _, _, rfl, rfl, a5 _ _ upd_same, upd_same, Nat.le_of_lt (small1000 (by rw [List.length_append, List.length_take, List.length_drop, hls]; show min i S.1.length + 1 + (S.1.length - (i + 1)) ≤ 1000; omega)), fun z3 hz3 => ?_⟩
        have a6 := sameNew hz3 (.lst ((ls.map V.ref).take i ++ [V.ref v] ++ (ls.map V.ref).drop (i + 1)))
        refine ⟨_, rfl, by show 2 ≤ sizeLine; decide, fun nw hnw => ?_⟩
        have a7 := sameNew hnw (.tup [V.ref z3, V.ref a])
        have a47 := a4.trans (a5.trans (a6.trans a7))
        have a17 := a13.trans a47
        refine done _ _ ⟨nw, (setK S.1 i b, S.2), rfl, a17, ⟨z3, a, upd_same, ⟨ls.set i v, a7 _ _ ?_, by rw [setK_len, List.length_set, l2], secs_set l2 (fun j t s e1 e2 => a17 _ _ (l3 j t s e1 e2)) (by rw [hDf]; exact a47 _ _ hv3)⟩, h31.same a17⟩, ⟨setK_ok ok.so hi b, ok.co⟩, fun m hm => hm, rfl⟩
        rw [upd_same, List.map_set, List.set_eq_take_append_cons_drop, if_pos (by rw [hls]; exact hi), List.append_assoc]
        rfl
    clear hD1 c11 h21 h31 inN hh1
    rintro σ3 H3 ⟨nw, S', rfl, s3, hn3, sok, sub, er⟩
    -- the ticks before and after
    have hh3 := hh.same (s1.trans s3)
    have hT3 := hT1.ext s3
    obtain ⟨l4, a4, g1, g2, g3⟩ := id hh3
    refine ⟨_, rfl, h, _, ((0 : Nat) : Int), .ref l4, rfl, rfl, SqT.of g1, atI_nat rfl, _, rfl, h, _, ((1 : Nat) : Int), .ref a4, rfl, rfl, SqT.of g1, atI_nat rfl, l4, a4, S.1, S.2, rfl, g2, g3, ok.so, ok.co, hT3, fun H4 t4 tb _ _ e4 T4 ht4 hb4 _ _ => ?_⟩
    have hn4 := hn3.ext e4
    obtain ⟨l5, a5, g4, g5, g6⟩ := id hn4
    refine ⟨t4, _, ((0 : Nat) : Int), .ref tb, rfl, rfl, SqT.of ht4, atI_nat rfl, _, rfl, nw, _, ((0 : Nat) : Int), .ref l5, rfl, rfl, SqT.of g4, atI_nat rfl, _, rfl, nw, _, ((1 : Nat) : Int), .ref a5, rfl, rfl, SqT.of g4, atI_nat rfl, l5, a5, S'.1, S'.2, rfl, g5, g6, sok.so, sok.co, T4, fun H5 t5 ta _ _ e5 T5 ht5 ha5 _ _ => ?_⟩
    have hb5 : ∀ n ∈ names S.2, ∃ (kt : List (Key × V)) (dd : Addr) (xs : List V), H5 tb = some (.dK kt) ∧ valV kt (Sum.inr n : Key) = some (.ref dd) ∧ H5 dd = some (.lst xs) ∧ atI xs (-1) = some (.int (arrL S n)) := fun n hn => by
      obtain ⟨kt, dd, xs, b1, b2, b3, b4⟩ := TksAt.arr (S := S) hb4 hn
      exact ⟨kt, dd, xs, e5 _ _ b1 (fun _ z => nomatch z), b2, ExtN.lst e5 b3, b4⟩
    have har := fun n hn => TksAt.arr (S := S') (n := n) ha5 hn
    obtain ⟨kt, ka1, ka2, _⟩ := id ha5
    refine ⟨t5, _, ((0 : Nat) : Int), .ref ta, rfl, rfl, SqT.of ht5, atI_nat rfl, fun F hF => ⟨_, _, _, rfl, ?_⟩⟩
    have s6 := sameNew hF (.dK [])
    have nF : NewA H F := NewA.of ((ExtN.same (s1.trans s3)).trans (e4.trans e5)) hF
    have e06 : ExtN H (upd H5 F (.dK [])) := (ExtN.same (s1.trans s3)).trans (e4.trans (e5.trans (ExtN.same s6)))
    have T6 := T5.ext s6
    have hn6 := (hn4.ext e5).same s6
    have ka6 := s6 _ _ ka1
    have hF6 : PairsAt (upd H5 F (.dK [])) F [] (fun n => (arrL S n, arrL S' n)) := ⟨[], upd_same, rfl, fun _ _ _ z => nomatch z⟩
    have hb6 : ∀ n ∈ names S.2, ∃ (kt : List (Key × V)) (dd : Addr) (xs : List V), upd H5 F (.dK []) tb = some (.dK kt) ∧ valV kt (Sum.inr n : Key) = some (.ref dd) ∧ upd H5 F (.dK []) dd = some (.lst xs) ∧ atI xs (-1) = some (.int (arrL S n)) := fun n hn => by
      obtain ⟨kt, dd, xs, b1, b2, b3, b4⟩ := hb5 n hn
      exact ⟨kt, dd, xs, s6 _ _ b1, b2, s6 _ _ b3, b4⟩
    have ha6 : ∀ n ∈ names S'.2, ∃ (dd : Addr) (xs : List V), valV kt (Sum.inr n : Key) = some (.ref dd) ∧ upd H5 F (.dK []) dd = some (.lst xs) ∧ atI xs (-1) = some (.int (arrL S' n)) := fun n hn => by
      obtain ⟨kt', dd, xs, b1, b2, b3, b4⟩ := har n hn
      rw [ka1] at b1
      cases b1
      exact ⟨dd, xs, b2, s6 _ _ b3, b4⟩
    have nFa : ta ≠ F := ne_of_none ka1 hF
    generalize upd H5 F (.dK []) = H6 at e06 T6 hn6 ka6 hF6 hb6 ha6 ⊢
    clear hb5 har hb4 ha5 e4 e5 T4 T5 hn3 hn4 s6 hF
    refine ⟨ta, _, ka6, True.intro, fun od => ?_⟩
    have np : ∀ x o, H6 x = some o → x ≠ ta → upd H6 ta (.frz od (.dK kt)) x = some o := fun x o e n => by rw [upd_ne n]; exact e
    have hz : upd H6 ta (.frz od (.dK kt)) ta = some (.frz od (.dK kt)) := upd_same
    have hF7 : PairsAt (upd H6 ta (.frz od (.dK kt))) F [] (fun n => (arrL S n, arrL S' n)) := by
      obtain ⟨ts, p1, p2, p3⟩ := hF6
      exact ⟨ts, np _ _ p1 nFa.symm, p2, fun i t m e1 e2 => np _ _ (p3 i t m e1 e2) (ne_of (p3 i t m e1 e2) ka6 (by intro z; cases z))⟩
    generalize upd H6 ta (.frz od (.dK kt)) = H7 at np hz hF7 ⊢
    refine ⟨_, rfl, ta, od, rfl, .inl ⟨kt, hz, ?_⟩⟩
    have klen : kt.length = S'.2.length := by
      have := congrArg List.length ka2
      rw [List.length_map, List.length_map] at this
      exact this
    have nd2 : (names S'.2).Nodup := sok.co.nd
    have few2 := sok.co.few
    refine for_it walk_keys (fun i σ H8 => ∃ v9, σ = [some (.ref h), some (.ref d), some (.ref l), some (.ref a), some (.ref D), some (.ref nw), some (.ref tb), some (.ref ta), some (.ref F), v9, none] ∧ (∀ x o, H6 x = some o → x ≠ ta → x ≠ F → H8 x = some o) ∧ H8 ta = some (.frz od (.dK kt)) ∧ PairsAt H8 F (((names S'.2).take i).filter fun n => decide (arrL S n ≠ arrL S' n)) (fun n => (arrL S n, arrL S' n)))
      ⟨none, rfl, fun x o e n _ => np x o e n, hz, hF7⟩ (fun i σ H8 _ ⟨_, _, _, q, _⟩ => q) ?_ ?_
    · rintro i x σ Hz8 H8 hi ⟨v9, rfl, k8, z8, p8⟩ ⟨e, kk, vv, hk, rfl⟩
      subst e
      have hic : i < S'.2.length := by rw [klen] at hi; exact hi
      obtain ⟨q, hq⟩ : ∃ q, S'.2[i]? = some q := ⟨_, List.getElem?_eq_getElem hic⟩
      have ekk : kk = Sum.inr q.name := by
        have z := congrArg (fun l => l[i]?) ka2
        rw [List.getElem?_map, List.getElem?_map, hk, hq] at z
        exact Option.some.inj z
      subst ekk
      have hm : q.name ∈ names S'.2 := List.mem_map_of_mem (List.mem_of_getElem? hq)
      have hni : (names S'.2)[i]? = some q.name := by unfold names; rw [List.getElem?_map, hq]; rfl
      obtain ⟨kt2, db, xb, b1, b2, b3, b4⟩ := hb6 _ (sub _ hm)
      obtain ⟨da, xa, a1, a3, a4⟩ := ha6 _ hm
      have nb1 : tb ≠ F := fun z => by
        obtain ⟨ts, p1, p2, _⟩ := hF6
        rw [z, p1] at b1
        cases b1
        cases b2
      have rb : DGet H8 tb (.str q.name) (some (.ref db)) := by
        by_cases eab : tb = ta
        · rw [eab, ka6] at b1
          cases b1
          rw [eab]
          exact gkR (.inr ⟨_, z8⟩) b2
        · exact gkR (.inl (k8 _ _ b1 eab nb1)) b2
      have ra : DGet H8 ta (.str q.name) (some (.ref da)) := gkR (.inr ⟨_, z8⟩) a1
      have neL : ∀ x xs, H6 x = some (.lst xs) → x ≠ ta ∧ x ≠ F := fun x xs e => ⟨ne_of e ka6 (by intro z; cases z), by
        obtain ⟨ts, p1, _⟩ := hF6
        exact ne_of e p1 (by intro z; cases z)⟩
      have xb8 := k8 _ _ b3 (neL _ _ b3).1 (neL _ _ b3).2
      have xa8 := k8 _ _ a3 (neL _ _ a3).1 (neL _ _ a3).2
      refine gname_to ?_
      refine ⟨_, rfl, _, rfl, tb, _, rfl, rb, _, rfl, db, xb, -1, _, rfl, rfl, SqL.of xb8, b4, _, rfl, _, rfl, ta, _, rfl, ra, _, rfl, da, xa, -1, _, rfl, rfl, SqL.of xa8, a4, rfl, _, rfl, ?_⟩
      have en : ((names S'.2).take (i + 1)).filter (fun n => decide (arrL S n ≠ arrL S' n)) = ((names S'.2).take i).filter (fun n => decide (arrL S n ≠ arrL S' n)) ++ if arrL S q.name ≠ arrL S' q.name then [q.name] else [] := by
        rw [tk1 hni, List.filter_append]
        by_cases g : arrL S q.name ≠ arrL S' q.name
        · rw [if_pos g, List.filter_cons_of_pos (by simpa using g)]; rfl
        · rw [if_neg g, List.filter_cons_of_neg (by simpa using g)]; rfl
      by_cases g : arrL S q.name = arrL S' q.name
      · rw [show (!decide (V.int (arrL S q.name) = V.int (arrL S' q.name))) = false by rw [decide_eq_true (congrArg V.int g)]; rfl]
        refine iteF ⟨_, rfl, k8, z8, ?_⟩
        rw [en, if_neg (fun z => z g), List.append_nil]
        exact p8
      · rw [show (!decide (V.int (arrL S q.name) = V.int (arrL S' q.name))) = true by rw [decide_eq_false (fun z => g (V.int.inj z))]; rfl]
        refine iteT ⟨_, rfl, _, rfl, tb, _, rfl, rb, _, rfl, db, xb, -1, _, rfl, rfl, SqL.of xb8, b4, _, rfl, _, rfl, ta, _, rfl, ra, _, rfl, da, xa, -1, _, rfl, rfl, SqL.of xa8, a4, by show 2 ≤ sizeLine; decide, fun u hu6 => ?_⟩
        have s6 := sameNew hu6 (.tup [V.int (arrL S q.name), V.int (arrL S' q.name)])
        have hnew : q.name ∉ ((names S'.2).take i).filter fun n => decide (arrL S n ≠ arrL S' n) := fun z => by
          have z := (List.mem_filter.mp z).1
          obtain ⟨j, hj⟩ := List.mem_iff_getElem?.mp z
          rw [List.getElem?_take] at hj
          split at hj
          · have := nd_ix nd2 hj hni
            omega
          · cases hj
        obtain ⟨kv, v1, v2, v3⟩ := PairsAt.snoc (g := fun n => (arrL S n, arrL S' n)) (p8.ext (ExtN.same s6)) hnew upd_same
        refine ⟨_, rfl, _, rfl, F, _, rfl, .k v1 (by rw [v2]; exact small1000 (Nat.le_trans (List.length_filter_le _ _) (by rw [List.length_take]; omega))), _, rfl, fun x o e n1 n2 => ?_, ?_, ?_⟩
        · rw [upd_ne n2]
          exact s6 _ _ (k8 _ _ e n1 n2)
        · rw [upd_ne nFa]
          exact s6 _ _ z8
        · rw [en, if_pos g]
          exact v3
    rintro σ H8 ⟨v9, rfl, k8, z8, p8⟩
    rw [klen, show S'.2.length = (names S'.2).length by unfold names; rw [List.length_map], List.take_length] at p8
    refine ⟨z8, _, rfl, _, rfl, by show 3 ≤ sizeLine; decide, fun t ht => ?_⟩
    obtain ⟨ts, p1, p2, p3⟩ := p8
    have kD : ∀ b o, H6 b = some o → (∀ kv, o ≠ .dK kv) → upd (upd H8 ta (.dK kt)) t (.tup [V.ref nw, V.ref F, V.non]) b = some o := fun b o e n => by
      have q1 : b ≠ ta := ne_of e ka6 (n _)
      have q2 : b ≠ F := by
        obtain ⟨ts, p1, _⟩ := hF6
        exact ne_of e p1 (n _)
      have q3 := k8 _ _ e q1 q2
      have q4 : upd H8 ta (.dK kt) b = some o := by rw [upd_ne q1]; exact q3
      rw [upd_ne (ne_of_none q4 ht)]
      exact q4
    refine k S' (chgX S S') er _ t nw (.ref F) (fun b o e n => ?_) (Tabs.keepD T6 kD) upd_same (hn6.keepD kD) ⟨F, rfl, ts, ?_, p2, fun i u m e1 e2 => ?_⟩
    · have q1 : b ≠ F := nF.ne e n
      have q2 := e06 _ _ e n
      by_cases eb : b = ta
      · subst eb
        rw [ka6] at q2
        rw [← q2]
        have q4 : upd H8 b (.dK kt) b = some (.dK kt) := upd_same
        rw [upd_ne (ne_of_none q4 ht)]
        exact q4
      · have q4 : upd H8 ta (.dK kt) b = some o := by rw [upd_ne eb]; exact k8 _ _ q2 eb q1
        rw [upd_ne (ne_of_none q4 ht)]
        exact q4
    · have q4 : upd H8 ta (.dK kt) F = some (.dK (((names S'.2).filter fun n => decide (arrL S n ≠ arrL S' n)).zip ts |>.map fun q => ((Sum.inr q.1 : Key), V.ref q.2))) := by rw [upd_ne nFa.symm]; exact p1
      rw [upd_ne (ne_of_none q4 ht)]
      exact q4
    · have q3 := p3 i u m e1 e2
      have q4 : upd H8 ta (.dK kt) u = some (.tup [.int (arrL S m), .int (arrL S' m)]) := by
        rw [upd_ne (ne_of q3 z8 (by intro w; cases w))]
        exact q3
      rw [upd_ne (ne_of_none q4 ht)]
      exact q4
end
end Sl

set_option Elab.async false
set_option linter.all false
set_option maxRecDepth 100000
set_option maxHeartbeats 1000000
namespace OwnR
open PySem PySem.Spec PyProof.Rows L2
/-! ### two dicts of equal data -/
def SameD (K : PySem.W.Frag) (H : Hp) (x y : V) : Prop := ∃ d, Dp K H x d ∧ Dp K H y d ∧ d.canLay0 = true ∧ d.depth ≤ 8
def rEqDD (K : PySem.W.Frag) : R2 := fun x y H Q => ∃ a b ks ls, x = .ref a ∧ y = .ref b ∧ H a = some (.dK ks) ∧ H b = some (.dK ls) ∧ ks.length = ls.length ∧ (∀ p ∈ ks, ∃ u, valV ls p.1 = some u ∧ SameD K H p.2 u) ∧ Q (.bl true) H
theorem op_eqDD {X : Cx} (hu : X.A.units + 64 < cLine) : OpR X (compareOp .Eq) (rEqDD X.K) := by
  intro pins s σ H x y v u Q I rx ry h
  obtain ⟨a, b, ks, ls, rfl, rfl, ha, hb, hl, hp, q⟩ := h
  cases (show v = Value.ref a from rx)
  cases (show u = Value.ref b from ry)
  obtain ⟨_, ya, va, ra, da⟩ := (show ObjOk X.prog X.w H s.heap a (.dK ks) from I.hok a _ ha)
  obtain ⟨_, yb, vb, rb, db⟩ := (show ObjOk X.prog X.w H s.heap b (.dK ls) from I.hok b _ hb)
  have ih : ∀ x y v u, SameD X.K H x y → RelV x v → RelV y u → SeqAt.EqP X.prog X.w X.A.in1 s v u true := fun x y v u h rx ry => by
    obtain ⟨d, h1, h2, h3, h4⟩ := h
    obtain ⟨as, r1⟩ := Dp.reads I d x v h1 rx
    obtain ⟨bs, r2⟩ := Dp.reads I d y u h2 ry
    have := SeqAt.eqAt_reads d d X.A.in1 s v u as bs r1 r2 h3 h3 (by show X.A.units + 1 + min d.depth d.depth < cLine; rw [Nat.min_self]; omega)
    rw [SeqAt.eqv_refl d h3] at this
    exact this.eqP
  have key : ∀ (E Q : Value → Shared → Prop), Q (.bool true) s → wpAny (model X.prog X.w) X.A (richCompare .Eq (.ref a) (.ref b)) Q E s := fun E Q hq => by
    refine PySem.W.rcP_dicts (knd := mixKind X.prog X.w) (r := true) ya yb da db (by omega) (fun _ => hits_run ih rb ra hp) E Q ?_
    have e : va.length = vb.length := by rw [← ra.length, ← rb.length]; exact hl
    rw [show (va.length == vb.length && true) = true from by rw [e]; simp]
    exact hq
  exact key _ _ ⟨.bl true, H, I, rfl, q⟩
end OwnR

set_option Elab.async false
set_option linter.all false
set_option maxRecDepth 100000
set_option maxHeartbeats 1000000
namespace OwnR
open PySem PySem.Spec PyProof.Rows L2
/-! ### two lists of one item each, asked whether they differ: the items are equal data, or dicts of equal data -/
def AlikeD (K : PySem.W.Frag) (H : Hp) (x y : V) : Prop := SameD K H x y ∨ ∃ a b ks ls, x = .ref a ∧ y = .ref b ∧ H a = some (.dK ks) ∧ H b = some (.dK ls) ∧ ks.length = ls.length ∧ ∀ p ∈ ks, ∃ u, valV ls p.1 = some u ∧ SameD K H p.2 u
def rNeL (K : PySem.W.Frag) : R2 := fun x y H Q => ∃ a b u v, x = .ref a ∧ y = .ref b ∧ H a = some (.lst [u]) ∧ H b = some (.lst [v]) ∧ AlikeD K H u v ∧ Q (.bl false) H
section
variable {prog : Program} {w : World} {l b : Addr} {x y : Value} {n n2 : Nat} {dd dd2 : Option Addr} {sl sl2 : Array (Option Value)} {items items2 : Array Value}
open PySem.AutoSeq1 (wpAny_loadPart')
open PySem.MeetsSeq PySem.MeetsSeq2 PySem.MeetsSeq3 PySem.SeqRoads2
/-- both lists hold one item -/
structure Ones (l b : Addr) (items items2 : Array Value) (x y : Value) (n n2 : Nat) (dd dd2 : Option Addr) (sl sl2 : Array (Option Value)) (s : Shared) : Prop where
  hl : s.heap.get? l = some { cls := .type "list", dict := dd, data := .seq items n, slots := sl }
  hb : s.heap.get? b = some { cls := .type "list", dict := dd2, data := .seq items2 n2, slots := sl2 }
  z1 : items.size = 1
  z2 : items2.size = 1
  e1 : items[((0 : Int)).toNat]? = some x
  e2 : items2[((0 : Int)).toNat]? = some y
theorem one_end : MeetsIn prog w (Builtin.«list.__eq__.loop» ⟨[.ref l, .ref b, rawInt 1, rawInt 3], []⟩) (fun A R s => Ones l b items items2 x y n n2 dd dd2 sl sl2 s ∧ R (.ok (.ret (.bool false))) s) := by
  intro A R s h0
  obtain ⟨hp, g, d, tk, os⟩ := s
  obtain ⟨⟨hl, hb, z1, z2, e1, e2⟩, h⟩ := h0
  wp_walk using wpAny_loadPart' hl, wpAny_loadPart' hb
  have hi1 : items[((1 : Int)).toNat]? = none := by simp; omega
  have hi2 : items2[((1 : Int)).toNat]? = none := by simp; omega
  rw [hi1, hi2]
  wp_walk using wpAny_loadPart' hl, wpAny_loadPart' hb
  show R (.ok (.ret (.bool (items.size != items2.size)))) _
  rw [z1, z2]
  exact h
theorem one_start : MeetsIn prog w (Builtin.«list.__eq__.loop» ⟨[.ref l, .ref b, rawInt 0, rawInt 3], []⟩) (fun A R s => Ones l b items items2 x y n n2 dd dd2 sl sl2 s ∧ SeqAt.EqP prog w A.in1 s x y true ∧ R (.ok (.ret (.bool false))) s) := by
  intro A R s h0
  obtain ⟨hp, g, d, tk, os⟩ := s
  obtain ⟨o, he, h⟩ := h0
  have hl := o.hl
  have hb := o.hb
  wp_walk using wpAny_loadPart' hl, wpAny_loadPart' hb
  rw [o.e1, o.e2]
  refine wpAny_bind (he _ _ ?_)
  wp_walk
  exact ⟨plainId_quiet plain_eq_loop _, codeAny_builtin entry_eq_loop (by
    rw [Around.under_plainId plain_eq_loop _]
    exact one_end A R _ ⟨o, h⟩)⟩
theorem one_ne : MeetsIn prog w (Builtin.«list.__ne__» ⟨[.ref l, .ref b], []⟩) (fun A R s => Ones l b items items2 x y n n2 dd dd2 sl sl2 s ∧ SeqAt.EqP prog w A.in1 s x y true ∧ R (.ok (.ret (.bool false))) s) := by
  intro A R s h0
  obtain ⟨hp, g, d, tk, os⟩ := s
  obtain ⟨o, he, h⟩ := h0
  have hl := o.hl
  have hb := o.hb
  have f3 := PySem.AutoSeq1.sub_list_list
  have hne : ¬ (items.size != items2.size) = true := by rw [o.z1, o.z2]; decide
  wp_walk using wpAny_loadPart' hl, wpAny_loadPart' hb
  exact ⟨plainId_quiet plain_eq_loop _, codeAny_builtin entry_eq_loop (by
    rw [Around.under_plainId plain_eq_loop _]
    exact one_start A R _ ⟨o, he, h⟩)⟩
end
section
variable {X : Cx} {pins : List (Addr × Obj)} {σ : L2.St} {H : Hp} {s : Shared}
theorem same_at (I : Inv X pins σ H s) {A : Around} (hu : A.units + 16 < cLine) {x y : V} {v u : Value} (h : SameD X.K H x y) (rx : RelV x v) (ry : RelV y u) : SeqAt.EqAt A s v u true := by
  obtain ⟨d, h1, h2, h3, h4⟩ := h
  obtain ⟨as, r1⟩ := Dp.reads I d x v h1 rx
  obtain ⟨bs, r2⟩ := Dp.reads I d y u h2 ry
  have := SeqAt.eqAt_reads d d A s v u as bs r1 r2 h3 h3 (by rw [Nat.min_self]; omega)
  rw [SeqAt.eqv_refl d h3] at this
  exact this
theorem alike_at (I : Inv X pins σ H s) {A : Around} (hu : A.units + 32 < cLine) {x y : V} {v u : Value} (h : AlikeD X.K H x y) (rx : RelV x v) (ry : RelV y u) : SeqAt.EqP X.prog X.w A s v u true := by
  rcases h with h | ⟨a, b, ks, ls, rfl, rfl, ha, hb, hl, hp⟩
  · exact (same_at I (by omega) h rx ry).eqP
  cases (show v = Value.ref a from rx)
  cases (show u = Value.ref b from ry)
  by_cases e : a = b
  · subst e
    exact (SeqAt.EqAt.same _).eqP
  obtain ⟨_, ya, va, ra, da⟩ := (show ObjOk X.prog X.w H s.heap a (.dK ks) from I.hok a _ ha)
  obtain ⟨_, yb, vb, rb, db⟩ := (show ObjOk X.prog X.w H s.heap b (.dK ls) from I.hok b _ hb)
  have hlen : va.length = vb.length := by rw [← ra.length, ← rb.length]; exact hl
  exact SeqAt.eqP_refs e fun E Q hq => by
    refine PySem.W.rcP_dicts (knd := mixKind X.prog X.w) (r := true) ya yb da db (by omega) (fun _ => hits_run (fun x y v u h rx ry => (same_at I (by show A.units + 1 + 16 < cLine; omega) h rx ry).eqP) rb ra hp) E Q ?_
    rw [show (va.length == vb.length && true) = true from by rw [hlen]; simp]
    exact hq
end
theorem op_neL {X : Cx} (hu : X.A.units + 64 < cLine) : OpR X (compareOp .NotEq) (rNeL X.K) := by
  intro pins s σ H x y v u Q I rx ry h
  obtain ⟨a, b, p, q, rfl, rfl, ha, hb, hp, k⟩ := h
  cases (show v = Value.ref a from rx)
  cases (show u = Value.ref b from ry)
  obtain ⟨us, r1, p1, _⟩ := I.list (SqL.of ha)
  obtain ⟨ws, r2, p2, _⟩ := I.list (SqL.of hb)
  cases r1 with
  | cons a1 b1 =>
    cases r2 with
    | cons a2 b2 =>
      cases b1
      cases b2
      obtain ⟨⟨cls, dd, data, sl⟩, ho, hc, n, hd⟩ := p1.isList
      obtain ⟨⟨cls2, dd2, data2, sl2⟩, ho2, hc2, n2, hd2⟩ := p2.isList
      simp only at hc hd hc2 hd2
      subst hc hd hc2 hd2
      have ta : s.TypeIs (.ref a) "list" := ⟨_, ho, rfl⟩
      have tb : s.TypeIs (.ref b) "list" := ⟨_, ho2, rfl⟩
      exact wpAny_richCompare_same_room (op := .NotEq) ta tb PySem.F.slot_list_ne (call_meetsIn PySem.F.slot_list_ne ta PySem.F.entry_list_ne (PySem.F.args_list_ne_2 _ _) one_ne
        ⟨⟨ho, ho2, rfl, rfl, rfl, rfl⟩, alike_at I (by show X.A.units + 1 + 32 < cLine; omega) hp a1 a2, (fun z => nomatch z), ⟨.bl false, H, I, rfl, k⟩⟩) (by omega)
/-- a list beside an empty one, asked whether they differ -/
def rNeE : R2 := fun x y H Q => ∃ a b xs, x = .ref a ∧ y = .ref b ∧ H a = some (.lst xs) ∧ H b = some (.lst []) ∧ Q (.bl (!xs.isEmpty)) H
theorem op_neE {X : Cx} (hu : X.A.units + 64 < cLine) : OpR X (compareOp .NotEq) rNeE := by
  intro pins s σ H x y v u Q I rx ry h
  obtain ⟨a, b, xs, rfl, rfl, ha, hb, k⟩ := h
  cases (show v = Value.ref a from rx)
  cases (show u = Value.ref b from ry)
  obtain ⟨us, r1, p1, _⟩ := I.list (SqL.of ha)
  obtain ⟨ws, r2, p2, _⟩ := I.list (SqL.of hb)
  cases r2
  cases r1 with
  | nil => exact SeqAt.RcNeAt.lists (A := X.A) (s := s) (e := fun _ => true) p1.isList p2.isList rfl (by omega) (fun j h1 _ => absurd h1 (by simp)) _ _ _ _ ⟨.bl false, H, I, rfl, k⟩
  | cons _ _ => exact SeqAt.RcNeAt.lists_lengths (A := X.A) (s := s) p1.isList p2.isList (by simp) (by omega) _ _ _ _ ⟨.bl true, H, I, rfl, k⟩
end OwnR

set_option Elab.async false
set_option linter.all false
set_option maxRecDepth 100000
set_option maxHeartbeats 4000000
namespace Sl
open PySem PySem.Spec L2 OwnR LamX
/-! ### what the law compares -/
def tellD (S : St2) : PyData := .list [secsD S.1, carsD S.2, .int ((S.2.length : Nat) : Int)]
theorem dp_tell {K : PySem.W.Frag} {H : Hp} {l : Addr} {S : St2} (h : TellAt H l S) : Dp K H (.ref l) (tellD S) := by
  obtain ⟨r, a, h1, h2, h3⟩ := h
  exact .lst (SqL.of h1) (.cons h2.dp (.cons (dp_cars h3) (.cons (.int _) .nil)))
theorem Shp.up {n m : Nat} {d : PyData} (h : Shp n d) (l : n ≤ m) : Shp m d := ⟨h.1, Nat.le_trans h.2 l⟩
theorem names_str {S : St2} (ok : StOk S) : ∀ c ∈ S.2, PyData.strOk c.name = true := fun c hc => namesOk ok.co _ (List.mem_map_of_mem hc)
theorem shp_tell {S : St2} (ok : StOk S) : Shp 3 (tellD S) := shp_list fun d hd => by
  rcases List.mem_cons.mp hd with rfl | hd
  · exact shp_secsD _
  rcases List.mem_cons.mp hd with rfl | hd
  · exact shp_cars (names_str ok)
  · rw [List.mem_singleton.mp hd]
    exact (shp_int _).up (by decide)
theorem pairs_at : ∀ {ns : List Str} {ts : List Addr} {i : Nat} {m : Str} {t : Addr}, ns.Nodup → ns[i]? = some m → ts[i]? = some t → valV ((ns.zip ts).map fun q => ((Sum.inr q.1 : Key), V.ref q.2)) (Sum.inr m : Key) = some (V.ref t)
  | [], _, _, _, _, _, h1, _ => by simp at h1
  | _ :: _, [], _, _, _, _, _, h2 => by simp at h2
  | a :: l, b :: r, 0, m, t, _, h1, h2 => by
    have e1 : a = m := by simpa using h1
    have e2 : b = t := by simpa using h2
    subst e1 e2
    exact valV_pos rfl
  | a :: l, b :: r, i + 1, m, t, nd, h1, h2 => by
    have h1' : l[i]? = some m := by simpa using h1
    have hne : ¬ (Sum.inr a : Key) = Sum.inr m := fun z => (List.nodup_cons.mp nd).1 (by rw [Sum.inr.inj z]; exact List.mem_of_getElem? h1')
    show valV (((Sum.inr a : Key), V.ref b) :: ((l.zip r).map fun q => ((Sum.inr q.1 : Key), V.ref q.2))) _ = _
    rw [valV_neg hne]
    exact pairs_at (List.nodup_cons.mp nd).2 h1' (by simpa using h2)
/-- no name is told twice -/
def Rs.nd : Rs → Prop
  | .tick _ => True
  | .chg ns _ => ns.Nodup
theorem step_nd {S S' : St2} {o : Op} {r : Rs} (ok : StOk S') (h : stepO S o = .inr (S', r)) : r.nd := by
  cases o with
  | join n st pc =>
    rw [step_join] at h
    split at h
    · cases h
    split at h
    · cases h
    cases h
    exact True.intro
  | rem n =>
    rw [step_rem] at h
    split at h
    · cases h
      exact ok.co.nd.sublist List.filter_sublist
    · cases h
  | kind i b =>
    cases h
    exact ok.co.nd.sublist List.filter_sublist
theorem two_ints (a b : Int) : Shp 1 (.tuple [.int a, .int b]) := shp_tuple fun d hd => by
  rcases List.mem_cons.mp hd with rfl | hd
  · exact shp_int _
  · rw [List.mem_singleton.mp hd]
    exact shp_int _
theorem alike_rs {K : PySem.W.Frag} {H : Hp} {v u : V} {r : Rs} (h1 : RsAt H v r) (h2 : RsAt H u r) (nd : r.nd) : AlikeD K H v u := by
  cases r with
  | tick i =>
    obtain rfl : v = .int i := h1
    obtain rfl : u = .int i := h2
    exact .inl ⟨.int i, .int i, .int i, rfl, by show 0 ≤ 8; decide⟩
  | chg ns g =>
    obtain ⟨a, rfl, ts, a1, a2, a3⟩ := h1
    obtain ⟨b, rfl, us, b1, b2, b3⟩ := h2
    have nd : ns.Nodup := nd
    refine .inr ⟨a, b, _, _, rfl, rfl, a1, b1, by rw [List.length_map, List.length_map, List.length_zip, List.length_zip, a2, b2], fun p hp => ?_⟩
    obtain ⟨q, hq, rfl⟩ := List.mem_map.mp hp
    obtain ⟨i, hi⟩ := List.mem_iff_getElem?.mp hq
    obtain ⟨m, t⟩ := q
    obtain ⟨hm, ht⟩ := List.getElem?_zip_eq_some.mp hi
    obtain ⟨u, hu⟩ : ∃ u, us[i]? = some u := ⟨_, List.getElem?_eq_getElem (by have := (List.getElem?_eq_some_iff.mp hm).1; omega)⟩
    have sh := two_ints (g m).1 (g m).2
    exact ⟨.ref u, pairs_at nd hm hu, _, .tup (SqT.of (a3 i t m ht hm)) (.cons (.int _) (.cons (.int _) .nil)), .tup (SqT.of (b3 i u m hu hm)) (.cons (.int _) (.cons (.int _) .nil)), sh.1, Nat.le_trans sh.2 (by decide)⟩
/-! ### the past -/
def lastS : St2 → List (St2 × Op) → St2
  | S0, [] => S0
  | _, r :: rs => lastS r.1 rs
def pastL : St2 → List (St2 × Op) → List (Op × St2)
  | _, [] => []
  | S0, r :: rs => (r.2, S0) :: pastL r.1 rs
def unL (un : List (St2 × Op)) : List LS := un.map fun r => (r.1, some r.2)
def latL (un : List (St2 × Op)) : List (Op × St2) := un.map fun r => (r.2, r.1)
theorem lastS_snoc : ∀ (rs : List (St2 × Op)) (S0 : St2) (r : St2 × Op), lastS S0 (rs ++ [r]) = r.1
  | [], _, _ => rfl
  | _ :: rs, _, r => lastS_snoc rs _ r
theorem pastL_snoc : ∀ (rs : List (St2 × Op)) (S0 : St2) (r : St2 × Op), pastL S0 (rs ++ [r]) = pastL S0 rs ++ [(r.2, lastS S0 rs)]
  | [], _, _ => rfl
  | q :: rs, S0, r => by
    show (q.2, S0) :: pastL q.1 (rs ++ [r]) = (q.2, S0) :: (pastL q.1 rs ++ [(r.2, lastS q.1 rs)])
    rw [pastL_snoc]
theorem pastL_len : ∀ (rs : List (St2 × Op)) (S0 : St2), (pastL S0 rs).length = rs.length
  | [], _ => rfl
  | q :: rs, S0 => by
    show (pastL q.1 rs).length + 1 = _
    rw [pastL_len rs]
    rfl
theorem pastL_ops : ∀ (rs : List (St2 × Op)) (S0 : St2), (pastL S0 rs).map (·.1) = rs.map (·.2)
  | [], _ => rfl
  | q :: rs, S0 => by
    show q.2 :: (pastL q.1 rs).map (·.1) = q.2 :: rs.map (·.2)
    rw [pastL_ops rs]
theorem hisL_snoc (S0 : St2) (rs : List (St2 × Op)) (r : St2 × Op) : hisL S0 (rs ++ [r]) = hisL S0 rs ++ [(r.1, some r.2)] := by
  unfold hisL
  rw [List.map_append]
  rfl
theorem hisL_last (S0 : St2) (rs : List (St2 × Op)) : ∃ q, (hisL S0 rs).getLast? = some (lastS S0 rs, q) := by
  rcases List.eq_nil_or_concat rs with e | ⟨us, t, e⟩
  · subst e
    exact ⟨none, rfl⟩
  · rw [List.concat_eq_append] at e
    subst e
    exact ⟨some t.2, by rw [hisL_snoc, lastS_snoc, List.getLast?_append]; rfl⟩
theorem hisL_len (S0 : St2) (rs : List (St2 × Op)) : (hisL S0 rs).length = rs.length + 1 := by unfold hisL; rw [List.length_cons, List.length_map]
theorem lastS_in {P : St2 → Prop} {S0 : St2} {rs : List (St2 × Op)} (h0 : P S0) (h : ∀ r ∈ rs, P r.1) : P (lastS S0 rs) := by
  rcases List.eq_nil_or_concat rs with e | ⟨us, t, e⟩
  · subst e
    exact h0
  · rw [List.concat_eq_append] at e
    subst e
    rw [lastS_snoc]
    exact h t (List.mem_append_right _ List.mem_cons_self)
theorem PastAt.split {H : Hp} {l : Addr} {ps : List (Op × St2)} {q : Op × St2} (h : PastAt H l (ps ++ [q])) : ∃ (us : List Addr) (t d hq : Addr), H l = some (.lst (us.map V.ref ++ [.ref t])) ∧ us.length = ps.length ∧
    (∀ (i : Nat) (t : Addr) (q : Op × St2), us[i]? = some t → ps[i]? = some q → ∃ d h : Addr, H t = some (.tup [.ref d, .ref h]) ∧ H d = some (.tup q.1.vs) ∧ HAt H h q.2) ∧ H t = some (.tup [.ref d, .ref hq]) ∧ H d = some (.tup q.1.vs) ∧ HAt H hq q.2 := by
  obtain ⟨ts, h1, h2, h3⟩ := h
  rw [List.length_append] at h2
  have h2 : ts.length = ps.length + 1 := h2
  obtain ⟨us, t, rfl⟩ : ∃ us t, ts = us ++ [t] := by
    rcases List.eq_nil_or_concat ts with e | ⟨us, t, e⟩
    · rw [e] at h2
      cases h2
    · exact ⟨us, t, by rw [e, List.concat_eq_append]⟩
  rw [List.length_append] at h2
  have h2 : us.length = ps.length := by
    have : us.length + 1 = ps.length + 1 := h2
    omega
  obtain ⟨d, hq, e1, e2, e3⟩ := h3 us.length t q (by rw [List.getElem?_append_right (Nat.le_refl _), Nat.sub_self]; rfl) (by rw [h2, List.getElem?_append_right (Nat.le_refl _), Nat.sub_self]; rfl)
  refine ⟨us, t, d, hq, by rw [h1, List.map_append]; rfl, h2, fun i u v z1 z2 => h3 i u v ?_ ?_, e1, e2, e3⟩
  · rw [List.getElem?_append_left (List.getElem?_eq_some_iff.mp z1).1]; exact z1
  · rw [List.getElem?_append_left (List.getElem?_eq_some_iff.mp z2).1]; exact z2
theorem PastAt.same {H H' : Hp} {l : Addr} {ps : List (Op × St2)} (h : PastAt H l ps) (s : Same H H') : PastAt H' l ps := h.nk fun b o e _ => s b o e
/-- one more -/
theorem PastAt.snoc {H : Hp} {l y t d h : Addr} {xs : List V} {ps : List (Op × St2)} {q : Op × St2} (hp : PastAt H l ps) (hl : H l = some (.lst xs)) (hy : H y = some (.lst (xs ++ [.ref t]))) (ht : H t = some (.tup [.ref d, .ref h])) (hd : H d = some (.tup q.1.vs)) (hh : HAt H h q.2) : PastAt H y (ps ++ [q]) := by
  obtain ⟨ts, h1, h2, h3⟩ := hp
  rw [hl] at h1
  cases h1
  refine ⟨ts ++ [t], by rw [hy, List.map_append]; rfl, by rw [List.length_append, List.length_append, h2]; rfl, fun i u v e1 e2 => ?_⟩
  rcases snoc_get e1 with e1 | ⟨hi, rfl⟩
  · rw [List.getElem?_append_left (by have := (List.getElem?_eq_some_iff.mp e1).1; omega)] at e2
    exact h3 i u v e1 e2
  · rw [List.getElem?_append_right (by omega), hi, h2, Nat.sub_self] at e2
    have : q = v := by simpa using e2
    subst this
    exact ⟨d, h, ht, hd, hh⟩
/-- what holds between two turns -/
structure LawI (K : PySem.W.Frag) (CL CR : Addr) (T : List (Addr × Str)) (H : Hp) (r sc x dx h pa la : Addr) (ns : List Int) (S0 : St2) (rs un : List (St2 × Op)) (b : Nat) : Prop where
  row : RowAt K H r sc ns
  tab : Tabs T H
  lv : LvAt CL CR H x dx (hisL S0 rs) (unL un)
  hh : HAt H h (lastS S0 rs)
  pa : PastAt H pa (pastL S0 rs)
  la : PastAt H la (latL un)
  g0 : StOk S0 ∧ StLe S0 (8 * b)
  gd : ∀ q ∈ rs ++ un, (StOk q.1 ∧ StLe q.1 (8 * b)) ∧ ∀ v ∈ q.2.vs, FlOk v
  few : rs.length + un.length ≤ b
section
variable {K : PySem.W.Frag} {CL CR : Addr} {T : List (Addr × Str)} {H H' : Hp} {r sc x dx h pa la : Addr} {ns : List Int} {S0 : St2} {rs un : List (St2 × Op)} {b : Nat}
theorem StLe.up {S : St2} {a c : Nat} (h : StLe S a) (l : a ≤ c) : StLe S c := fun q hq => ⟨by have := (h q hq).1; omega, (h q hq).2⟩
theorem LawI.keep (F : LawI K CL CR T H r sc x dx h pa la ns S0 rs un b) (k : KeepB r H H') (R : RowAt K H' r sc ns) : LawI K CL CR T H' r sc x dx h pa la ns S0 rs un b :=
  let nk := NK.keep F.row k
  ⟨R, Tabs.row F.tab F.row k, F.lv.keep F.row k, F.hh.nk nk, F.pa.nk nk, F.la.nk nk, F.g0, F.gd, F.few⟩
theorem LawI.ext (F : LawI K CL CR T H r sc x dx h pa la ns S0 rs un b) (e : ExtN H H') (t : Tabs T H') : LawI K CL CR T H' r sc x dx h pa la ns S0 rs un b :=
  let kg := Kg.of e
  ⟨F.row.kg kg, t, F.lv.ext e, F.hh.nk kg.nk, F.pa.nk kg.nk, F.la.nk kg.nk, F.g0, F.gd, F.few⟩
theorem LawI.same (F : LawI K CL CR T H r sc x dx h pa la ns S0 rs un b) (s : Same H H') : LawI K CL CR T H' r sc x dx h pa la ns S0 rs un b := F.ext (ExtN.same s) (F.tab.ext s)
theorem LawI.ok (F : LawI K CL CR T H r sc x dx h pa la ns S0 rs un b) : StOk (lastS S0 rs) ∧ StLe (lastS S0 rs) (8 * b) := lastS_in (P := fun S => StOk S ∧ StLe S (8 * b)) F.g0 fun q hq => (F.gd q (List.mem_append_left _ hq)).1
end
end Sl

set_option Elab.async false
set_option linter.all false
set_option maxRecDepth 100000
set_option maxHeartbeats 4000000
namespace Sl
open PySem PySem.Spec L2 OwnR LamX
/-! ### a list of lists of numbers, made item by item -/
def Lz (H0 : Hp) (D : Addr) (H : Hp) (ls : List (List Int)) : Prop := Same H0 H ∧ ∃ as : List Addr, H D = some (.lst (as.map V.ref)) ∧ as.length = ls.length ∧ ∀ (i : Nat) (b : Addr) (l : List Int), as[i]? = some b → ls[i]? = some l → b ≠ D ∧ H b = some (.lst (l.map V.int))
theorem Lz.nil {H0 : Hp} {D : Addr} (h : H0 D = none) : Lz H0 D (upd H0 D (.lst [])) [] := ⟨sameNew h _, [], upd_same, rfl, fun _ _ _ z => nomatch z⟩
/-- one more: what the comprehension's turn asks -/
theorem Lz.put {H0 H H1 : Hp} {D b : Addr} {ls : List (List Int)} {l : List Int} (h : Lz H0 D H ls) (hD : H0 D = none) (s : Same H H1) (hb : H1 b = some (.lst (l.map V.int))) (n : b ≠ D) (small : ls.length ≤ 100) : ∃ acc, H1 D = some (.lst acc) ∧ acc.length < sizeLine ∧ Lz H0 D (upd H1 D (.lst (acc ++ [.ref b]))) (ls ++ [l]) := by
  obtain ⟨s0, as, h1, h2, h3⟩ := h
  refine ⟨_, s _ _ h1, by rw [List.length_map, h2]; exact small1000 (by omega), fun c o e => by rw [upd_ne (ne_of_none e hD)]; exact s _ _ (s0 _ _ e), as ++ [b], by rw [upd_same, List.map_append]; rfl, by rw [List.length_append, List.length_append, h2]; rfl, fun i t v e1 e2 => ?_⟩
  rcases snoc_get e1 with e1 | ⟨hi, rfl⟩
  · have hl := (List.getElem?_eq_some_iff.mp e1).1
    rw [List.getElem?_append_left (by omega)] at e2
    obtain ⟨z1, z2⟩ := h3 i t v e1 e2
    exact ⟨z1, by rw [upd_ne z1]; exact s _ _ z2⟩
  · rw [List.getElem?_append_right (by omega), hi, h2, Nat.sub_self] at e2
    have : l = v := by simpa using e2
    subst this
    exact ⟨n, by rw [upd_ne n]; exact hb⟩
def listsD (ls : List (List Int)) : PyData := .list (ls.map intsD)
def LsAt (H : Hp) (D : Addr) (ls : List (List Int)) : Prop := ∃ as : List Addr, H D = some (.lst (as.map V.ref)) ∧ as.length = ls.length ∧ ∀ (i : Nat) (b : Addr) (l : List Int), as[i]? = some b → ls[i]? = some l → H b = some (.lst (l.map V.int))
theorem Lz.at_ {H0 H : Hp} {D : Addr} {ls : List (List Int)} (h : Lz H0 D H ls) : LsAt H D ls := let ⟨_, as, a, b, c⟩ := h; ⟨as, a, b, fun i t l e1 e2 => (c i t l e1 e2).2⟩
theorem LsAt.same {H H' : Hp} {D : Addr} {ls : List (List Int)} (h : LsAt H D ls) (s : Same H H') : LsAt H' D ls := let ⟨as, a, b, c⟩ := h; ⟨as, s _ _ a, b, fun i t l e1 e2 => s _ _ (c i t l e1 e2)⟩
theorem dp_lists {K : PySem.W.Frag} {H : Hp} {D : Addr} {ls : List (List Int)} (h : LsAt H D ls) : Dp K H (.ref D) (listsD ls) := by
  obtain ⟨as, a, b, c⟩ := h
  exact .lst (SqL.of a) (dp_refs intsD b fun i t l e1 e2 => dp_ints (c i t l e1 e2))
theorem shp_lists (ls : List (List Int)) : Shp 2 (listsD ls) := shp_list fun d hd => by
  obtain ⟨l, _, rfl⟩ := List.mem_map.mp hd
  exact shp_intsD l
end Sl
namespace Sl
open PySem PySem.Spec L2 OwnR LamX
theorem unL_snoc (un : List (St2 × Op)) (r : St2 × Op) : unL (un ++ [r]) = unL un ++ [(r.1, some r.2)] := by unfold unL; rw [List.map_append]; rfl
theorem latL_snoc (un : List (St2 × Op)) (r : St2 × Op) : latL (un ++ [r]) = latL un ++ [(r.2, r.1)] := by unfold latL; rw [List.map_append]; rfl
theorem unL_len (un : List (St2 × Op)) : (unL un).length = un.length := List.length_map ..
theorem latL_len (un : List (St2 × Op)) : (latL un).length = un.length := List.length_map ..
/-- what stays of a turn's facts while the live road changes -/
structure LawP (K : PySem.W.Frag) (T : List (Addr × Str)) (H : Hp) (r sc h pa la : Addr) (ns : List Int) (S0 : St2) (rs un : List (St2 × Op)) : Prop where
  row : RowAt K H r sc ns
  tab : Tabs T H
  hh : HAt H h (lastS S0 rs)
  pa : PastAt H pa (pastL S0 rs)
  la : PastAt H la (latL un)
section
variable {K : PySem.W.Frag} {CL CR : Addr} {T : List (Addr × Str)} {H H' : Hp} {r sc x dx h pa la : Addr} {ns : List Int} {S0 : St2} {rs un : List (St2 × Op)} {b : Nat}
theorem LawI.kp {fs : List (Str × V)} (F : LawI K CL CR T H r sc x dx h pa la ns S0 rs un b) (hx : H x = some (.ins CL dx fs)) (k : KpP x H H') (t : Tabs T H') : LawP K T H' r sc h pa la ns S0 rs un :=
  let kg := Kg.kp hx k
  ⟨F.row.kg kg, t, F.hh.nk kg.nk, F.pa.nk kg.nk, F.la.nk kg.nk⟩
theorem LawP.same (F : LawP K T H r sc h pa la ns S0 rs un) (s : Same H H') : LawP K T H' r sc h pa la ns S0 rs un :=
  ⟨F.row.same s, F.tab.ext s, F.hh.same s, F.pa.same s, F.la.same s⟩
theorem LawI.up (F : LawI K CL CR T H r sc x dx h pa la ns S0 rs un b) : LawI K CL CR T H r sc x dx h pa la ns S0 rs un (b + 1) :=
  ⟨F.row, F.tab, F.lv, F.hh, F.pa, F.la, ⟨F.g0.1, F.g0.2.up (by omega)⟩, fun q hq => ⟨⟨(F.gd q hq).1.1, (F.gd q hq).1.2.up (by omega)⟩, (F.gd q hq).2⟩, Nat.le_succ_of_le F.few⟩
/-- the list at pa is empty just when there is no past -/
theorem PastAt.empty {l : Addr} {ps : List (Op × St2)} (h : PastAt H l ps) : ∃ xs, H l = some (.lst xs) ∧ xs.isEmpty = ps.isEmpty := by
  obtain ⟨ts, h1, h2, _⟩ := h
  refine ⟨_, h1, ?_⟩
  cases ts with
  | nil =>
    cases ps with
    | nil => rfl
    | cons _ _ => cases h2
  | cons _ _ =>
    cases ps with
    | nil => cases h2
    | cons _ _ => rfl
end
end Sl
namespace Sl
theorem isE {α : Type} (l : List α) (a : α) : (l ++ [a]).isEmpty = false := by cases l <;> rfl
end Sl
namespace Sl
open PySem PySem.Spec L2 OwnR LamX
def erD (e : Er) : PyData := .tuple ((erV e).map vD)
theorem er_fl {S : St2} {o : Op} {e : Er} (h : stepO S o = .inl e) (fl : ∀ v ∈ o.vs, FlOk v) : ∀ v ∈ erV e, FlOk v := by
  cases o with
  | join n st pc =>
    rw [step_join] at h
    split at h
    · cases h
      intro v hv
      rw [List.mem_singleton.mp hv]
      exact .s (by decide +kernel)
    split at h
    · cases h
      intro v hv
      rw [List.mem_singleton.mp hv]
      exact .s (by decide +kernel)
    · cases h
  | rem n =>
    rw [step_rem] at h
    split at h
    · cases h
    · cases h
      intro v hv
      rcases List.mem_cons.mp hv with rfl | hv
      · exact .s (by decide +kernel)
      · rw [List.mem_singleton.mp hv]
        exact fl _ (List.mem_cons_of_mem _ List.mem_cons_self)
  | kind i b => cases h
theorem dp_er {K : PySem.W.Frag} {H : Hp} {w : Addr} {e : Er} (h : H w = some (.tup (erV e))) (fl : ∀ v ∈ erV e, FlOk v) : Dp K H (.ref w) (erD e) := .tup (SqT.of h) (dp_flat fl)
theorem shp_er {e : Er} (fl : ∀ v ∈ erV e, FlOk v) : Shp 1 (erD e) := shp_tuple fun d hd => by
  obtain ⟨v, hv, rfl⟩ := List.mem_map.mp hd
  exact (fl v hv).shp
theorem er_raised {K : PySem.W.Frag} {CNm CMy CU CE c0 c1 c2 c3 c4 c5 : Addr} {H : Hp} {cls : Value} {d : Option Addr} {e : Er} {Q : VK} (rU : RsJ K CE c0 c1 c2 c3 c4 c5 CU 0) (rN : RsJ K CE c0 c1 c2 c3 c4 c5 CNm 2) (rM : RsJ K CE c0 c1 c2 c3 c4 c5 CMy 5)
    (h : ErAt CNm CMy CU H cls d e) (k : ∀ H' p, Same H H' → H' p = some (.tup (erV e)) → Q (.ref p) H') : raisedR K CE c0 c1 c2 c3 c4 c5 cls d H Q := by
  cases e with
  | name =>
    obtain ⟨rfl, rfl⟩ := h
    exact ⟨CNm, 2, .non, rfl, rN, by decide, .inl rfl, .inl ⟨by decide, by decide⟩, k⟩
  | many =>
    obtain ⟨rfl, rfl⟩ := h
    exact ⟨CMy, 5, .non, rfl, rM, by decide, .inl rfl, .inl ⟨by decide, by decide⟩, k⟩
  | car n =>
    obtain ⟨rfl, b, fs, rfl, hb, hn⟩ := h
    exact ⟨CU, 0, .str n, rfl, rU, by decide, .inr ⟨b, fs, rfl, hb⟩, .inr ⟨b, fs, rfl, hb, hn⟩, k⟩
end Sl
namespace Sl
open PySem PySem.Spec L2 OwnR LamX
/-! ### an own list that is written -/
section
variable {H : Hp} {fd : Addr} {ys : List V}
theorem off_ne (hf : H fd = some (.lst [])) {b : Addr} {o : HO} (e : H b = some o) (n : o ≠ .lst []) : upd H fd (.lst ys) b = some o := by
  rw [upd_ne (fun z => n (by rw [z, hf] at e; exact (Option.some.inj e).symm))]
  exact e
theorem refs_ne {ls : List Addr} (n : ls ≠ []) : HO.lst (ls.map V.ref) ≠ .lst [] := fun z => by
  cases ls with
  | nil => exact n rfl
  | cons _ _ => cases z
theorem HAt.off {h : Addr} {S : St2} (hh : HAt H h S) (ne : S.1 ≠ []) (hf : H fd = some (.lst [])) : HAt (upd H fd (.lst ys)) h S := by
  obtain ⟨l, a, h1, ⟨ls, l1, l2, l3⟩, ⟨cs, c1, c2, c3⟩⟩ := hh
  have nl : ls ≠ [] := fun z => ne (List.length_eq_zero_iff.mp (by rw [← l2, z]; rfl))
  exact ⟨l, a, off_ne hf h1 (fun z => nomatch z), ⟨ls, off_ne hf l1 (refs_ne nl), l2, fun i t c e1 e2 => off_ne hf (l3 i t c e1 e2) (fun z => nomatch z)⟩, ⟨cs, off_ne hf c1 (fun z => nomatch z), c2, fun i t c e1 e2 => off_ne hf (c3 i t c e1 e2) (fun z => nomatch z)⟩⟩
theorem RsAt.off {v : V} {r : Rs} (h : RsAt H v r) (hf : H fd = some (.lst [])) : RsAt (upd H fd (.lst ys)) v r := by
  cases r with
  | tick i => exact h
  | chg ns g =>
    obtain ⟨d, rfl, ts, p1, p2, p3⟩ := h
    exact ⟨d, rfl, ts, off_ne hf p1 (fun z => nomatch z), p2, fun i t m e1 e2 => off_ne hf (p3 i t m e1 e2) (fun z => nomatch z)⟩
theorem Tabs.off {T : List (Addr × Str)} (t : Tabs T H) (hf : H fd = some (.lst [])) : Tabs T (upd H fd (.lst ys)) := Tabs.keepL t fun b o e n => off_ne hf e (n _)
theorem StsAt.off {CR l : Addr} {ss : List LS} (h : StsAt CR H l ss) (n : l ≠ fd) (hf : H fd = some (.lst [])) : StsAt CR (upd H fd (.lst ys)) l ss := by
  obtain ⟨ts, h1, h2, h3⟩ := h
  exact ⟨ts, by rw [upd_ne n]; exact h1, h2, fun i t s e1 e2 => (h3 i t s e1 e2).nl fun b o e n _ => off_ne hf e (n _)⟩
theorem LvAt.off {CL CR x dx : Addr} {ss un : List LS} {H5 : Hp} (h : LvAt CL CR H x dx ss un) (ne : ss ≠ []) (u : UnN CL H5 H x) (hf5 : H5 fd = some (.lst [])) (hf : H fd = some (.lst [])) : LvAt CL CR (upd H fd (.lst ys)) x dx ss un := by
  obtain ⟨sl, ul, ks, ku, h1, h2, h3⟩ := h
  have n1 : sl ≠ fd := fun z => by
    obtain ⟨ts, t1, t2, _⟩ := h2
    rw [z, hf] at t1
    have : ts ≠ [] := fun z => ne (List.length_eq_zero_iff.mp (by rw [← t2, z]; rfl))
    exact refs_ne this (Option.some.inj t1).symm
  have n2 : ul ≠ fd := fun z => u _ _ h1 ul (lv_u _ _ _ _ _) [] (by rw [z]; exact hf5)
  exact ⟨sl, ul, ks, ku, off_ne hf h1 (fun z => nomatch z), h2.off n1 hf, h3.off n2 hf⟩
end
end Sl

set_option Elab.async false
set_option linter.all false
set_option maxRecDepth 100000
set_option maxHeartbeats 4000000
namespace Sl
open PySem PySem.Spec L2 OwnR LamX
section
variable {K : PySem.W.Frag} {H H' : Hp}
/-! ### own lists that grow while other things stand -/
/-- the script does not lie in a list that is written -/
def ScOff (K : PySem.W.Frag) (sc D : Addr) (ns : List Int) : Prop := sc ≠ D ∨ ∀ H, SqL K H sc (ns.map V.int)
theorem RowAt.off {r sc D : Addr} {ns : List Int} {o : HO} (R : RowAt K H r sc ns) (nr : r ≠ D) (ns' : ScOff K sc D ns) : RowAt K (upd H D o) r sc ns := by
  obtain ⟨a, b, c, e⟩ := R.at_
  refine ⟨⟨a, b, c, by rw [upd_ne nr]; exact e⟩, fun H2 k2 => ?_⟩
  rcases ns' with n | h
  · have := R.scr (fun x => if x = D then H D else H2 x) (fun x o2 e2 n2 => by
      show (if x = D then H D else H2 x) = some o2
      by_cases z : x = D
      · rw [if_pos z, ← z]
        exact e2
      · rw [if_neg z]
        exact k2 _ _ (by rw [upd_ne z]; exact e2) n2)
    rcases this with (h | ⟨q, h⟩) | h
    · exact .inl (.inl (by simpa [n] using h))
    · exact .inl (.inr ⟨q, by simpa [n] using h⟩)
    · exact .inr h
  · exact h H2
theorem refs_inj : ∀ {a b : List Addr}, a.map V.ref = b.map V.ref → a = b
  | [], [], _ => rfl
  | [], _ :: _, h => by cases h
  | _ :: _, [], h => by cases h
  | x :: a, y :: b, h => by
    have h1 := List.cons.inj h
    rw [V.ref.inj h1.1, refs_inj h1.2]
/-- operations in a list -/
def DeedsAt (H : Hp) (D : Addr) (ops : List Op) : Prop := ∃ bs : List Addr, H D = some (.lst (bs.map V.ref)) ∧ bs.length = ops.length ∧ ∀ (i : Nat) (b : Addr) (o : Op), bs[i]? = some b → ops[i]? = some o → H b = some (.tup o.vs)
theorem DeedsAt.nk {D : Addr} {ops : List Op} (h : DeedsAt H D ops) (k : NK H H') : DeedsAt H' D ops := let ⟨bs, a, b, c⟩ := h; ⟨bs, k _ _ a (.refs _), b, fun i t o e1 e2 => k _ _ (c i t o e1 e2) (.tup _)⟩
theorem DeedsAt.tups {D : Addr} {ops : List Op} (h : DeedsAt H D ops) : TupsAt H D (ops.map Op.vs) := by
  obtain ⟨bs, a, b, c⟩ := h
  refine ⟨bs, a, by rw [b, List.length_map], fun i t vs e1 e2 => ?_⟩
  rw [List.getElem?_map] at e2
  obtain ⟨o, ho, rfl⟩ := Option.map_eq_some_iff.mp e2
  exact c i t o e1 ho
theorem DeedsAt.put {D b : Addr} {ops : List Op} {o : Op} (h : DeedsAt H D ops) (hb : H b = some (.tup o.vs)) : ∃ xs : List V, H D = some (.lst xs) ∧ xs.length = ops.length ∧ DeedsAt (upd H D (.lst (xs ++ [.ref b]))) D (ops ++ [o]) := by
  obtain ⟨bs, h1, h2, h3⟩ := h
  have off : ∀ (t : Addr) (ys : List V), H t = some (.tup ys) → ∀ q : HO, upd H D q t = some (.tup ys) := fun t ys e q => by rw [upd_ne (ne_of e h1 (by intro z; cases z))]; exact e
  refine ⟨_, h1, by rw [List.length_map, h2], bs ++ [b], by rw [upd_same, List.map_append]; rfl, by rw [List.length_append, List.length_append, h2]; rfl, fun i t q e1 e2 => ?_⟩
  rcases snoc_get e1 with e1 | ⟨hi, rfl⟩
  · have := (List.getElem?_eq_some_iff.mp e1).1
    rw [List.getElem?_append_left (by omega)] at e2
    exact off _ _ (h3 i t q e1 e2) _
  · rw [List.getElem?_append_right (by omega), hi, h2, Nat.sub_self] at e2
    have : o = q := by simpa using e2
    subst this
    exact off _ _ hb _
/-- what was told, in a list -/
def ToldAt (H : Hp) (D : Addr) (Ss : List St2) : Prop := ∃ ts : List Addr, H D = some (.lst (ts.map V.ref)) ∧ ts.length = Ss.length ∧ ∀ (i : Nat) (t : Addr) (S : St2), ts[i]? = some t → Ss[i]? = some S → TellAt H t S
theorem vs_str (o : Op) : ∃ s rest, o.vs = .str s :: rest := by cases o <;> exact ⟨_, _, rfl⟩
theorem sec_vs (s : Sec) (o : Op) : secV s ≠ o.vs := fun z => by
  have z := congrArg (fun l => l[1]?) z
  have y := congrArg List.length ‹secV s = o.vs›
  cases o with
  | join n a b => cases z
  | rem n => cases z
  | kind i b => cases y
/-- a list whose members are other things is another list -/
theorem DeedsAt.ne {D l t : Addr} {ops : List Op} {ls : List Addr} {q : HO} (h : DeedsAt H D ops) (hl : H l = some (.lst (ls.map V.ref))) (h0 : ls[0]? = some t) (ht : H t = some q) (n : ∀ o : Op, q ≠ .tup o.vs) : l ≠ D := fun z => by
  obtain ⟨bs, h1, h2, h3⟩ := h
  rw [z, h1] at hl
  have e : bs = ls := by
    have := HO.lst.inj (Option.some.inj hl)
    exact refs_inj this
  subst e
  obtain ⟨o, ho⟩ : ∃ o, ops[0]? = some o := ⟨_, List.getElem?_eq_getElem (by have := (List.getElem?_eq_some_iff.mp h0).1; omega)⟩
  have := h3 0 t o h0 ho
  rw [ht] at this
  exact n o (Option.some.inj this)
theorem ToldAt.ne {D l t : Addr} {Ss : List St2} {ls : List Addr} {ys : List V} (h : ToldAt H D Ss) (hl : H l = some (.lst (ls.map V.ref))) (h0 : ls[0]? = some t) (ht : H t = some (.tup ys)) : l ≠ D := fun z => by
  obtain ⟨bs, h1, h2, h3⟩ := h
  rw [z, h1] at hl
  have e : bs = ls := by
    have := HO.lst.inj (Option.some.inj hl)
    exact refs_inj this
  subst e
  obtain ⟨S, hS⟩ : ∃ S, Ss[0]? = some S := ⟨_, List.getElem?_eq_getElem (by have := (List.getElem?_eq_some_iff.mp h0).1; omega)⟩
  obtain ⟨_, _, q, _⟩ := h3 0 t S h0 hS
  rw [ht] at q
  cases q
end
end Sl

set_option Elab.async false
set_option linter.all false
set_option maxRecDepth 100000
set_option maxHeartbeats 4000000
namespace Sl
open PySem PySem.Spec L2 OwnR LamX
section
variable {K : PySem.W.Frag} {H H' : Hp}
/-- no list of other tuples than operations is D, a list of operations or of what was told -/
structure Oth (H : Hp) (D : Addr) : Prop where
  at_ : ∃ bs : List Addr, H D = some (.lst (bs.map V.ref))
  ne : ∀ (l t : Addr) (ls : List Addr) (ys : List V), H l = some (.lst (ls.map V.ref)) → ls[0]? = some t → H t = some (.tup ys) → (∀ o : Op, ys ≠ o.vs) → l ≠ D
theorem DeedsAt.oth {D : Addr} {ops : List Op} (h : DeedsAt H D ops) : Oth H D := ⟨let ⟨bs, a, _⟩ := h; ⟨bs, a⟩, fun l t ls ys hl h0 ht n => h.ne hl h0 ht fun o z => n o (HO.tup.inj z)⟩
theorem ToldAt.oth {D : Addr} {Ss : List St2} (h : ToldAt H D Ss) : Oth H D := ⟨let ⟨bs, a, _⟩ := h; ⟨bs, a⟩, fun l t ls ys hl h0 ht _ => h.ne hl h0 ht⟩
variable {D : Addr} {q : HO}
theorem Oth.put (O : Oth H D) {b : Addr} {o : HO} (e : H b = some o) (n : ∀ xs, o ≠ .lst xs) : upd H D q b = some o := by
  obtain ⟨bs, h⟩ := O.at_
  rw [upd_ne (ne_of e h (n _))]
  exact e
theorem hd_at {α : Type} {l : List α} (n : l ≠ []) : ∃ x, l[0]? = some x := by
  cases l with
  | nil => exact absurd rfl n
  | cons x r => exact ⟨x, rfl⟩
theorem RunsAt.oth {l : Addr} {secs : List Sec} (h : RunsAt H l secs) (ne : secs ≠ []) (O : Oth H D) : l ≠ D := by
  obtain ⟨ts, h1, h2, h3⟩ := h
  obtain ⟨s, hs⟩ := hd_at ne
  obtain ⟨t, ht⟩ : ∃ t, ts[0]? = some t := hd_at fun z => ne (List.length_eq_zero_iff.mp (by rw [← h2, z]; rfl))
  exact O.ne l t ts _ h1 ht (h3 0 t s ht hs) (sec_vs s)
theorem RunsAt.put {l : Addr} {secs : List Sec} (h : RunsAt H l secs) (ne : secs ≠ []) (O : Oth H D) : RunsAt (upd H D q) l secs := by
  have n := h.oth ne O
  obtain ⟨ts, h1, h2, h3⟩ := h
  exact ⟨ts, by rw [upd_ne n]; exact h1, h2, fun i t s e1 e2 => O.put (h3 i t s e1 e2) (fun _ z => (nomatch z))⟩
theorem CarsAt.oth {a : Addr} {cars : List Car} (h : CarsAt H a cars) (O : Oth H D) : CarsAt (upd H D q) a cars := by
  obtain ⟨ts, h1, h2, h3⟩ := h
  exact ⟨ts, O.put h1 (fun _ z => (nomatch z)), h2, fun i t s e1 e2 => O.put (h3 i t s e1 e2) (fun _ z => (nomatch z))⟩
theorem HAt.oth {h : Addr} {S : St2} (hh : HAt H h S) (ne : S.1 ≠ []) (O : Oth H D) : HAt (upd H D q) h S := by
  obtain ⟨l, a, h1, h2, h3⟩ := hh
  exact ⟨l, a, O.put h1 (fun _ z => (nomatch z)), h2.put ne O, h3.oth O⟩
theorem TellAt.oth {l : Addr} {S : St2} (h : TellAt H l S) (ne : S.1 ≠ []) (O : Oth H D) : TellAt (upd H D q) l S := by
  obtain ⟨r, a, h1, h2, h3⟩ := h
  have n : l ≠ D := fun z => by
    obtain ⟨bs, hb⟩ := O.at_
    rw [z, hb] at h1
    have e := HO.lst.inj (Option.some.inj h1)
    cases bs with
    | nil => cases e
    | cons _ bs =>
      cases bs with
      | nil => cases e
      | cons _ bs =>
        cases bs with
        | nil => cases e
        | cons _ bs => cases e
  exact ⟨r, a, by rw [upd_ne n]; exact h1, h2.put ne O, h3.oth O⟩
/-- a live road whose list of undone ones is none of some lists -/
def LvU (CL CR : Addr) (H : Hp) (x dx : Addr) (ss un : List LS) (Ds : List Addr) : Prop := ∃ sl ul ks ku : Addr, H x = some (.ins CL dx (lvF sl ul false ks ku)) ∧ StsAt CR H sl ss ∧ StsAt CR H ul un ∧ ∀ D ∈ Ds, ul ≠ D
theorem LvU.at_ {CL CR x dx : Addr} {ss un : List LS} {Ds : List Addr} (h : LvU CL CR H x dx ss un Ds) : LvAt CL CR H x dx ss un := let ⟨sl, ul, ks, ku, a, b, c, _⟩ := h; ⟨sl, ul, ks, ku, a, b, c⟩
theorem LvU.ext {CL CR x dx : Addr} {ss un : List LS} {Ds : List Addr} (h : LvU CL CR H x dx ss un Ds) (e : ExtN H H') : LvU CL CR H' x dx ss un Ds := let ⟨sl, ul, ks, ku, a, b, c, d⟩ := h; ⟨sl, ul, ks, ku, e _ _ a ((fun _ z => (nomatch z))), b.ext e, c.ext e, d⟩
theorem LvU.keep {CL CR x dx r sc : Addr} {ns : List Int} {ss un : List LS} {Ds : List Addr} (h : LvU CL CR H x dx ss un Ds) (R : RowAt K H r sc ns) (k : KeepB r H H') : LvU CL CR H' x dx ss un Ds := by
  obtain ⟨sl, ul, ks, ku, h1, h2, h3, h4⟩ := h
  exact ⟨sl, ul, ks, ku, k _ _ h1 (R.neO h1 (fun _ z => (nomatch z))), h2.keep R k, h3.keep R k, h4⟩
theorem LvU.of {CL CR x dx : Addr} {ss un : List LS} {Ds : List Addr} {H5 : Hp} (h : LvAt CL CR H x dx ss un) (u : UnN CL H5 H x) (hD : ∀ D ∈ Ds, ∃ xs, H5 D = some (.lst xs)) : LvU CL CR H x dx ss un Ds := by
  obtain ⟨sl, ul, ks, ku, h1, h2, h3⟩ := h
  exact ⟨sl, ul, ks, ku, h1, h2, h3, fun D hd z => by
    obtain ⟨xs, hx⟩ := hD D hd
    exact u _ _ h1 ul (lv_u _ _ _ _ _) xs (by rw [z]; exact hx)⟩
theorem StsAt.oth {CR l : Addr} {ss : List LS} (h : StsAt CR H l ss) (n : l ≠ D) (O : Oth H D) : StsAt CR (upd H D q) l ss := by
  obtain ⟨ts, h1, h2, h3⟩ := h
  exact ⟨ts, by rw [upd_ne n]; exact h1, h2, fun i t s e1 e2 => (h3 i t s e1 e2).nl fun b o e n _ => O.put e n⟩
theorem LvU.oth {CL CR x dx : Addr} {ss un : List LS} {Ds : List Addr} (h : LvU CL CR H x dx ss un Ds) (ne : ss ≠ []) (O : Oth H D) (hd : D ∈ Ds) : LvU CL CR (upd H D q) x dx ss un Ds := by
  obtain ⟨sl, ul, ks, ku, h1, h2, h3, h4⟩ := h
  have n1 : sl ≠ D := by
    obtain ⟨ts, t1, t2, t3⟩ := id h2
    obtain ⟨s, hs⟩ := hd_at ne
    obtain ⟨t, ht⟩ : ∃ t, ts[0]? = some t := hd_at fun z => ne (List.length_eq_zero_iff.mp (by rw [← t2, z]; rfl))
    obtain ⟨p, a, v, e1, _⟩ := t3 0 t s ht hs
    exact O.ne sl t ts _ t1 ht e1 fun o z => by
      obtain ⟨s, rest, e⟩ := vs_str o
      rw [e] at z
      cases z
  exact ⟨sl, ul, ks, ku, O.put h1 (fun _ z => (nomatch z)), h2.oth n1 O, h3.oth (h4 D hd) O, h4⟩
theorem Tabs.oth {T : List (Addr × Str)} (t : Tabs T H) (O : Oth H D) : Tabs T (upd H D q) := Tabs.keepL t fun b o e n => O.put e n
theorem RoadAt.oth {CR p : Addr} {secs : List Sec} (h : RoadAt CR H p secs) (O : Oth H D) : RoadAt CR (upd H D q) p secs := by
  obtain ⟨d, t, u, h1, ⟨ts, a1, a2, a3⟩, h3⟩ := h
  exact ⟨d, t, u, O.put h1 (fun _ z => (nomatch z)), ⟨ts, O.put a1 (fun _ z => (nomatch z)), a2, fun i t s e1 e2 => O.put (a3 i t s e1 e2) (fun _ z => (nomatch z))⟩, h3⟩
end
end Sl
namespace Sl
open PySem PySem.Spec L2 OwnR LamX
/-- a call that raises nothing, of a def that may -/
theorem passE0 {X : Cx} {P : Program} {w : World} : Passes (L2.CX P w) X L2.E0 := fun _ _ _ _ _ _ _ h => by
  obtain ⟨_, _, _, _, _, _, _, _, _, _, _, _, h⟩ := h
  exact h.elim
end Sl

set_option Elab.async false
set_option linter.all false
set_option maxRecDepth 100000
set_option maxHeartbeats 4000000
namespace Sl
open PySem PySem.Spec L2 OwnR LamX
/-! ### operations one after another, all good -/
def Chain : St2 → List (St2 × Op) → Prop
  | _, [] => True
  | S, r :: rs => OpOk S r.2 ∧ (∃ v, stepO S r.2 = .inr (r.1, v)) ∧ Chain r.1 rs
theorem chain_snoc {o : Op} {S' : St2} {v : Rs} : ∀ (rs : List (St2 × Op)) (S0 : St2), Chain S0 rs → OpOk (lastS S0 rs) o → stepO (lastS S0 rs) o = .inr (S', v) → Chain S0 (rs ++ [(S', o)])
  | [], _, _, ok, h => ⟨ok, ⟨v, h⟩, True.intro⟩
  | r :: rs, _, c, ok, h => ⟨c.1, c.2.1, chain_snoc rs r.1 c.2.2 ok h⟩
theorem chain_oks : ∀ (rs : List (St2 × Op)) (S0 : St2), Chain S0 rs → OpsOk S0 (rs.map (·.2))
  | [], _, _ => True.intro
  | r :: rs, S0, c => ⟨c.1, fun S' v h => by
    obtain ⟨u, hu⟩ := c.2.1
    rw [hu] at h
    have e : r.1 = S' := (Prod.mk.inj (Sum.inr.inj h)).1
    rw [← e]
    exact chain_oks rs r.1 c.2.2⟩
theorem chain_run : ∀ (rs : List (St2 × Op)) (S0 : St2), Chain S0 rs → ∃ vs, runO S0 (rs.map (·.2)) = .inr (unL rs, vs)
  | [], S0, _ => ⟨[], runO_nil S0⟩
  | r :: rs, S0, c => by
    obtain ⟨u, hu⟩ := c.2.1
    obtain ⟨vs, hv⟩ := chain_run rs r.1 c.2.2
    exact ⟨u :: vs, runO_good hu hv⟩
theorem ToldAt.nk {H H' : Hp} {D : Addr} {Ss : List St2} (h : ToldAt H D Ss) (k : ∀ b o, H b = some o → (∀ C d fs, o ≠ .ins C d fs) → (∀ ps, o ≠ .tbl ps) → H' b = some o) : ToldAt H' D Ss := by
  have nk : NK H H' := Kg.nk k
  obtain ⟨ts, h1, h2, h3⟩ := h
  refine ⟨ts, nk _ _ h1 (.refs _), h2, fun i t S e1 e2 => ?_⟩
  obtain ⟨r, a, q1, q2, q3⟩ := h3 i t S e1 e2
  exact ⟨r, a, k _ _ q1 (fun _ _ _ z => (nomatch z)) (fun _ z => (nomatch z)), q2.nk nk, q3.nk nk⟩
theorem TellAt.keep {K : PySem.W.Frag} {H H' : Hp} {l r sc : Addr} {ns : List Int} {S : St2} (h : TellAt H l S) (R : RowAt K H r sc ns) (k : KeepB r H H') : TellAt H' l S := by
  obtain ⟨p, a, h1, h2, h3⟩ := h
  have n : l ≠ r := fun z => by
    obtain ⟨x, b, c, e⟩ := R.at_
    rw [z, e] at h1
    have e := HO.lst.inj (Option.some.inj h1)
    have := congrArg List.length e
    cases this
  exact ⟨p, a, k _ _ h1 n, h2.nk (NK.keep R k), h3.nk (NK.keep R k)⟩
theorem ToldAt.keep {K : PySem.W.Frag} {H H' : Hp} {D r sc : Addr} {ns : List Int} {Ss : List St2} (h : ToldAt H D Ss) (R : RowAt K H r sc ns) (k : KeepB r H H') : ToldAt H' D Ss := by
  obtain ⟨ts, h1, h2, h3⟩ := h
  exact ⟨ts, k _ _ h1 (R.neR h1), h2, fun i t S e1 e2 => (h3 i t S e1 e2).keep R k⟩
/-- what holds while the operations are drawn -/
structure LawJ (K : PySem.W.Frag) (CL CR : Addr) (T : List (Addr × Str)) (H : Hp) (r sc p x dx h D1 D2 : Addr) (ns : List Int) (S0 : St2) (rs : List (St2 × Op)) (b : Nat) : Prop where
  row : RowAt K H r sc ns
  tab : Tabs T H
  rd : RoadAt CR H p S0.1
  lv : LvU CL CR H x dx (hisL S0 rs) [] [D1, D2]
  hh : HAt H h (lastS S0 rs)
  dd : DeedsAt H D1 (rs.map (·.2))
  tl : ToldAt H D2 ((pastL S0 rs).map (·.2))
  ch : Chain S0 rs
  g0 : StOk S0 ∧ StLe S0 (8 * b)
  gd : ∀ q ∈ rs, (StOk q.1 ∧ StLe q.1 (8 * b)) ∧ ∀ v ∈ q.2.vs, FlOk v
  few : rs.length ≤ b
section
variable {K : PySem.W.Frag} {CL CR : Addr} {T : List (Addr × Str)} {H H' : Hp} {r sc p x dx h D1 D2 : Addr} {ns : List Int} {S0 : St2} {rs : List (St2 × Op)} {b : Nat}
theorem RoadAt.keepR {C : Addr} {secs : List Sec} (hh : RoadAt C H p secs) (R : RowAt K H r sc ns) (k : KeepB r H H') : RoadAt C H' p secs := by
  obtain ⟨d, t, u, h1, ⟨ts, a1, a2, a3⟩, h3⟩ := hh
  exact ⟨d, t, u, k _ _ h1 (R.neO h1 (fun _ z => (nomatch z))), ⟨ts, k _ _ a1 (R.neO a1 (fun _ z => (nomatch z))), a2, fun i t s e1 e2 => k _ _ (a3 i t s e1 e2) (R.neO (a3 i t s e1 e2) (fun _ z => (nomatch z)))⟩, h3⟩
theorem LawJ.keep (F : LawJ K CL CR T H r sc p x dx h D1 D2 ns S0 rs b) (k : KeepB r H H') (R : RowAt K H' r sc ns) : LawJ K CL CR T H' r sc p x dx h D1 D2 ns S0 rs b :=
  let nk := NK.keep F.row k
  ⟨R, Tabs.row F.tab F.row k, F.rd.keepR F.row k, F.lv.keep F.row k, F.hh.nk nk, F.dd.nk nk, F.tl.keep F.row k, F.ch, F.g0, F.gd, F.few⟩
theorem LawJ.ext (F : LawJ K CL CR T H r sc p x dx h D1 D2 ns S0 rs b) (e : ExtN H H') (t : Tabs T H') : LawJ K CL CR T H' r sc p x dx h D1 D2 ns S0 rs b :=
  let kg := Kg.of e
  ⟨F.row.kg kg, t, F.rd.ext e, F.lv.ext e, F.hh.nk kg.nk, F.dd.nk kg.nk, F.tl.nk kg, F.ch, F.g0, F.gd, F.few⟩
theorem LawJ.same (F : LawJ K CL CR T H r sc p x dx h D1 D2 ns S0 rs b) (s : Same H H') : LawJ K CL CR T H' r sc p x dx h D1 D2 ns S0 rs b := F.ext (ExtN.same s) (F.tab.ext s)
theorem LawJ.ok (F : LawJ K CL CR T H r sc p x dx h D1 D2 ns S0 rs b) : StOk (lastS S0 rs) ∧ StLe (lastS S0 rs) (8 * b) := lastS_in (P := fun S => StOk S ∧ StLe S (8 * b)) F.g0 fun q hq => (F.gd q hq).1
theorem LawJ.up (F : LawJ K CL CR T H r sc p x dx h D1 D2 ns S0 rs b) : LawJ K CL CR T H r sc p x dx h D1 D2 ns S0 rs (b + 1) :=
  ⟨F.row, F.tab, F.rd, F.lv, F.hh, F.dd, F.tl, F.ch, ⟨F.g0.1, F.g0.2.up (by omega)⟩, fun q hq => ⟨⟨(F.gd q hq).1.1, (F.gd q hq).1.2.up (by omega)⟩, (F.gd q hq).2⟩, Nat.le_succ_of_le F.few⟩
end
end Sl

set_option Elab.async false
set_option linter.all false
set_option maxRecDepth 100000
set_option maxHeartbeats 4000000
namespace Sl
open PySem PySem.Spec L2 OwnR LamX
section
variable {H : Hp} {D D2 : Addr} {q : HO}
theorem ToldAt.other {Ss : List St2} (h : ToldAt H D2 Ss) (ne : ∀ S ∈ Ss, S.1 ≠ []) (O : Oth H D) (n : D2 ≠ D) : ToldAt (upd H D q) D2 Ss := by
  obtain ⟨ts, h1, h2, h3⟩ := h
  exact ⟨ts, by rw [upd_ne n]; exact h1, h2, fun i t S e1 e2 => (h3 i t S e1 e2).oth (ne S (List.mem_of_getElem? e2)) O⟩
theorem DeedsAt.other {ops : List Op} (h : DeedsAt H D2 ops) (O : Oth H D) (n : D2 ≠ D) : DeedsAt (upd H D q) D2 ops := by
  obtain ⟨ts, h1, h2, h3⟩ := h
  exact ⟨ts, by rw [upd_ne n]; exact h1, h2, fun i t S e1 e2 => O.put (h3 i t S e1 e2) (fun _ z => (nomatch z))⟩
theorem ToldAt.put {Ss : List St2} {l : Addr} {S : St2} (h : ToldAt H D Ss) (ne : ∀ S ∈ Ss, S.1 ≠ []) (hl : TellAt H l S) (nS : S.1 ≠ []) : ∃ xs : List V, H D = some (.lst xs) ∧ xs.length = Ss.length ∧ ToldAt (upd H D (.lst (xs ++ [.ref l]))) D (Ss ++ [S]) := by
  have O := h.oth
  obtain ⟨ts, h1, h2, h3⟩ := h
  refine ⟨_, h1, by rw [List.length_map, h2], ts ++ [l], by rw [upd_same, List.map_append]; rfl, by rw [List.length_append, List.length_append, h2]; rfl, fun i t Z e1 e2 => ?_⟩
  rcases snoc_get e1 with e1 | ⟨hi, rfl⟩
  · have := (List.getElem?_eq_some_iff.mp e1).1
    rw [List.getElem?_append_left (by omega)] at e2
    exact (h3 i t Z e1 e2).oth (ne Z (List.mem_of_getElem? e2)) O
  · rw [List.getElem?_append_right (by omega), hi, h2, Nat.sub_self] at e2
    have : S = Z := by simpa using e2
    subst this
    exact hl.oth nS O
theorem TellAt.ext {H H' : Hp} {l : Addr} {S : St2} (h : TellAt H l S) (e : ExtN H H') : TellAt H' l S := by
  obtain ⟨ra, aa, z1, z2, z3⟩ := h
  exact ⟨ra, aa, ExtN.lst e z1, z2.ext e, z3.ext e⟩
theorem past_ok {P : St2 → Prop} : ∀ (rs : List (St2 × Op)) (S0 : St2), P S0 → (∀ r ∈ rs, P r.1) → ∀ S ∈ (pastL S0 rs).map (·.2), P S
  | [], _, _, _, _, h => nomatch h
  | r :: rs, S0, h0, h, S, hS => by
    rcases List.mem_cons.mp hS with rfl | hS
    · exact h0
    · exact past_ok rs r.1 (h r List.mem_cons_self) (fun q hq => h q (List.mem_cons_of_mem _ hq)) S hS
theorem past_snoc (S0 : St2) (rs : List (St2 × Op)) (r : St2 × Op) : (pastL S0 (rs ++ [r])).map (·.2) = (pastL S0 rs).map (·.2) ++ [lastS S0 rs] := by
  rw [pastL_snoc, List.map_append]
  rfl
end
theorem setK_twice {secs : List Sec} {i : Nat} (h : i < secs.length) (a b : Bool) : setK (setK secs i a) i b = setK secs i b := by
  unfold setK
  rw [List.set_set, List.getD_eq_getElem?_getD, List.getD_eq_getElem?_getD, List.getD_eq_getElem?_getD, List.getElem?_set_self h, List.getElem?_eq_getElem h]
  rfl
end Sl

set_option Elab.async false
set_option linter.all false
set_option maxRecDepth 100000
set_option maxHeartbeats 4000000
namespace Sl
open PySem PySem.Spec L2 OwnR LamX
/-! ### all is undone, and done again -/
theorem TellAt.kg {H H' : Hp} {l : Addr} {S : St2} (h : TellAt H l S) (k : Kg H H') : TellAt H' l S := by
  obtain ⟨r, a, q1, q2, q3⟩ := h
  exact ⟨r, a, k _ _ q1 (fun _ _ _ z => (nomatch z)) (fun _ z => (nomatch z)), q2.nk k.nk, q3.nk k.nk⟩
structure LawU (CL CR : Addr) (T : List (Addr × Str)) (H : Hp) (x dx D1 D2 l1 : Addr) (S0 : St2) (rs : List (St2 × Op)) (k : Nat) : Prop where
  tab : Tabs T H
  dd : DeedsAt H D1 (rs.map (·.2))
  tl : ToldAt H D2 ((pastL S0 rs).map (·.2))
  l1 : TellAt H l1 (lastS S0 rs)
  lv : LvAt CL CR H x dx (hisL S0 (rs.take k)) (unL (rs.drop k).reverse)
section
variable {CL CR : Addr} {T : List (Addr × Str)} {H H' : Hp} {x dx D1 D2 l1 : Addr} {S0 : St2} {rs : List (St2 × Op)} {k : Nat}
theorem LawU.ext (F : LawU CL CR T H x dx D1 D2 l1 S0 rs k) (e : ExtN H H') (t : Tabs T H') : LawU CL CR T H' x dx D1 D2 l1 S0 rs k :=
  let kg := Kg.of e
  ⟨t, F.dd.nk kg.nk, F.tl.nk kg, F.l1.kg kg, F.lv.ext e⟩
theorem LawU.same (F : LawU CL CR T H x dx D1 D2 l1 S0 rs k) (s : Same H H') : LawU CL CR T H' x dx D1 D2 l1 S0 rs k := F.ext (ExtN.same s) (F.tab.ext s)
theorem LawU.kp {k2 : Nat} {fs : List (Str × V)} (F : LawU CL CR T H x dx D1 D2 l1 S0 rs k) (hx : H x = some (.ins CL dx fs)) (kp : KpP x H H') (t : Tabs T H') (lv : LvAt CL CR H' x dx (hisL S0 (rs.take k2)) (unL (rs.drop k2).reverse)) : LawU CL CR T H' x dx D1 D2 l1 S0 rs k2 :=
  let kg := Kg.kp hx kp
  ⟨t, F.dd.nk kg.nk, F.tl.nk kg, F.l1.kg kg, lv⟩
end
theorem take_at1 {α : Type} : ∀ {l : List α} {k : Nat} {r : α}, l[k]? = some r → l.take (k + 1) = l.take k ++ [r]
  | [], _, _, h => by simp at h
  | a :: l, 0, r, h => by
    have : a = r := by simpa using h
    rw [this]
    rfl
  | a :: l, k + 1, r, h => by
    have h' : l[k]? = some r := by simpa using h
    show a :: l.take (k + 1) = a :: (l.take k ++ [r])
    rw [take_at1 h']
theorem drop_at1 {α : Type} : ∀ {l : List α} {k : Nat} {r : α}, l[k]? = some r → l.drop k = r :: l.drop (k + 1)
  | [], _, _, h => by simp at h
  | a :: l, 0, r, h => by
    have : a = r := by simpa using h
    rw [this]
    rfl
  | a :: l, k + 1, r, h => by
    have h' : l[k]? = some r := by simpa using h
    show l.drop k = r :: l.drop (k + 1)
    exact drop_at1 h'
theorem his_at {S0 : St2} {rs : List (St2 × Op)} {k : Nat} {r : St2 × Op} (h : rs[k]? = some r) : hisL S0 (rs.take (k + 1)) = hisL S0 (rs.take k) ++ [(r.1, some r.2)] := by rw [take_at1 h, hisL_snoc]
theorem un_at {rs : List (St2 × Op)} {k : Nat} {r : St2 × Op} (h : rs[k]? = some r) : unL (rs.drop k).reverse = unL (rs.drop (k + 1)).reverse ++ [(r.1, some r.2)] := by rw [drop_at1 h, List.reverse_cons, unL_snoc]
theorem past_at : ∀ {rs : List (St2 × Op)} {S0 : St2} {k : Nat}, k < rs.length → ((pastL S0 rs).map (·.2))[k]? = some (lastS S0 (rs.take k))
  | [], _, _, h => by simp at h
  | r :: rs, S0, 0, _ => rfl
  | r :: rs, S0, k + 1, h => by
    have h' : k < rs.length := by simpa using h
    show ((pastL r.1 rs).map (·.2))[k]? = some (lastS r.1 (rs.take k))
    exact past_at h'
theorem rg_down (n : Nat) (hn : n < 1000) : RgC ((n : Int) - 1) (-1) (-1) n := by
  have h := RgC.neg (i := (n : Int) - 1) (j := -1) (by omega) (by omega) (by decide) (by decide)
  rwa [show ((n : Int) - 1 - -1).toNat = n by omega] at h
def flD (vs : List V) : PyData := .tuple (vs.map vD)
theorem dp_fl {K : PySem.W.Frag} {H : Hp} {w : Addr} {vs : List V} (h : H w = some (.tup vs)) (fl : ∀ v ∈ vs, FlOk v) : Dp K H (.ref w) (flD vs) := .tup (SqT.of h) (dp_flat fl)
theorem shp_fl {vs : List V} (fl : ∀ v ∈ vs, FlOk v) : Shp 1 (flD vs) := shp_tuple fun d hd => by
  obtain ⟨v, hv, rfl⟩ := List.mem_map.mp hd
  exact (fl v hv).shp
/-- a part of a list of operations -/
theorem DeedsAt.take {H H' : Hp} {D z : Addr} {ops : List Op} {k : Nat} {xs : List V} (h : DeedsAt H D ops) (hD : H D = some (.lst xs)) (s : Same H H') (hz : H' z = some (.lst (xs.take k))) : TupsAt H' z ((ops.take k).map Op.vs) := by
  obtain ⟨bs, h1, h2, h3⟩ := h
  rw [hD] at h1
  cases h1
  refine ⟨bs.take k, by rw [hz, List.map_take], by rw [List.length_take, List.length_map, List.length_take, h2], fun i t vs e1 e2 => ?_⟩
  rw [List.getElem?_map] at e2
  obtain ⟨o, ho, rfl⟩ := Option.map_eq_some_iff.mp e2
  have hi : i < k := by
    have := (List.getElem?_eq_some_iff.mp e1).1
    rw [List.length_take] at this
    omega
  rw [List.getElem?_take_of_lt hi] at e1 ho
  exact s _ _ (h3 i t o e1 ho)
end Sl

set_option Elab.async false
set_option linter.all false
set_option maxRecDepth 100000
set_option maxHeartbeats 1000000
namespace OwnR
open PySem PySem.Spec PyProof.Rows L2
/-! ### two dicts of equal data, asked whether they differ -/
def rNeDD (K : PySem.W.Frag) : R2 := fun x y H Q => ∃ a b ks ls, x = .ref a ∧ y = .ref b ∧ H a = some (.dK ks) ∧ H b = some (.dK ls) ∧ ks.length = ls.length ∧ (∀ p ∈ ks, ∃ u, valV ls p.1 = some u ∧ SameD K H p.2 u) ∧ Q (.bl false) H
theorem hits_at {A : Around} {s : Shared} {F : V → V → Prop} (ih : ∀ x y v u, F x y → RelV x v → RelV y u → SeqAt.EqAt A s v u true) {ls : List (Key × V)} {vb : List (Key × Value)} (rb : KV ls vb) : ∀ {ks : List (Key × V)} {va : List (Key × Value)},
    KV ks va → (∀ p ∈ ks, ∃ u, valV ls p.1 = some u ∧ F p.2 u) → PySem.W.KeqHits A s vb va true := by
  intro ks va ra
  unfold KV at ra
  induction ra with
  | nil => exact fun _ => .nil
  | @cons p q ps qs hpq _ rest =>
    intro all
    obtain ⟨u, lookedUp, same⟩ := all p List.mem_cons_self
    have found : RelO (some u) (valueAt vb p.1) := lookedUp ▸ rb.val p.1
    obtain ⟨y, hy, ry⟩ := found.some_of
    obtain ⟨key, v⟩ := q
    obtain ⟨hk, hv⟩ := hpq
    have hk2 : p.1 = key := hk
    rw [hk2] at hy
    have step := PySem.W.KeqHits.hit hy (ih _ _ _ _ same hv ry) (rest fun p' hm => all p' (List.mem_cons_of_mem _ hm))
    exact step
theorem op_neDD {X : Cx} (hu : X.A.units + 64 < cLine) : OpR X (compareOp .NotEq) (rNeDD X.K) := by
  intro pins s σ H x y v u Q I rx ry h
  obtain ⟨a, b, ks, ls, rfl, rfl, ha, hb, hl, hp, q⟩ := h
  cases (show v = Value.ref a from rx)
  cases (show u = Value.ref b from ry)
  obtain ⟨_, ya, va, ra, da⟩ := (show ObjOk X.prog X.w H s.heap a (.dK ks) from I.hok a _ ha)
  obtain ⟨_, yb, vb, rb, db⟩ := (show ObjOk X.prog X.w H s.heap b (.dK ls) from I.hok b _ hb)
  have ih : ∀ x y v u, SameD X.K H x y → RelV x v → RelV y u → SeqAt.EqAt X.A.in1 s v u true := fun x y v u h rx ry => by
    obtain ⟨d, h1, h2, h3, h4⟩ := h
    obtain ⟨as, r1⟩ := Dp.reads I d x v h1 rx
    obtain ⟨bs, r2⟩ := Dp.reads I d y u h2 ry
    have := SeqAt.eqAt_reads d d X.A.in1 s v u as bs r1 r2 h3 h3 (by show X.A.units + 1 + min d.depth d.depth < cLine; rw [Nat.min_self]; omega)
    rw [SeqAt.eqv_refl d h3] at this
    exact this
  refine PySem.W.keq_ne (r := true) ya yb da db (by omega) (fun _ => hits_at ih rb ra hp) ?_
  have e : va.length = vb.length := by rw [← ra.length, ← rb.length]; exact hl
  rw [show (!(va.length == vb.length && true)) = false from by rw [e]; simp]
  exact ⟨.bl false, H, I, rfl, q⟩
end OwnR

set_option Elab.async false
set_option linter.all false
set_option maxRecDepth 100000
set_option maxHeartbeats 4000000
namespace Sl
open PySem PySem.Spec L2 OwnR LamX
def qLaw : Str := ("law" : Str) ++ (".<locals>." : Str) ++ ("<lambda>" : Str)
def nLaw : List Str := ["_law_script", "_law_row", "_law_units_here", "_law_road", "_law_live", "_law_h", "_law_deeds", "_law_states", "_law_turn", "_law_deed_here", "_law_new", "_law_due", "_law_word", "_law_last", "_law_other", "_law_bad", "_law_wide", "_law_k"]
theorem scLaw : FnScope nLaw ["_law_script"] (defScope sLaw) := ⟨rfl, rfl, rfl, by decide +kernel, rfl, by decide +kernel, by decide +kernel⟩
/-- all that the law asks of the program -/
structure Env66 (P : Program) (w : World) (K : PySem.W.Frag) (mg : Str → Option Value) (base : Heap) (CR CL C CNm CMy CU CE c0 c1 c2 c3 c4 c5 pO fO pS fS pR fR : Addr) (mc : Value) (T : List (Addr × Str)) : Prop where
  M : Mg mg
  LT : LivT K CL
  RT : RsTab mg CE c0 c1 c2 c3 c4 c5
  rU : RsJ K CE c0 c1 c2 c3 c4 c5 CU 0
  rN : RsJ K CE c0 c1 c2 c3 c4 c5 CNm 2
  rM : RsJ K CE c0 c1 c2 c3 c4 c5 CMy 5
  taken : ∃ f fd, Fb K mg "_law_taken" sTaken ["_law_row", "_law_many"] f fd ∧ FnOk P w K mg base CX0 1 f fd ["_law_row", "_law_many"] (spTaken K)
  units : ∃ f fd, Fb K mg "_law_units" sUnits ["_law_row", "_law_most"] f fd ∧ FnOk P w K mg base CX0 2 f fd ["_law_row", "_law_most"] (spUnits K)
  secs : ∃ f fd, Fb K mg "_law_sections" sSections ["_law_units_here"] f fd ∧ FnOk P w K mg base CX0 1 f fd ["_law_units_here"] spSections
  road : mg "Road" = some (.ref CR) ∧ ClX.CRead K CR mc ∧ ClX.CMet K CR mc "of_units" pO fO ∧ ∃ d, Binds K d ["cls", "units"] [] ∧ FnOk P w K mg base CX0 5 fO d ["cls", "units"] (spOfUnits CR)
  make : ∃ f fd, Mk K CL f ∧ mg "LiveRoad" = some (.ref CL) ∧ Binds K fd ["self", "road"] [] ∧ FnOk P w K mg base CX0 1 f fd ["self", "road"] (spLInit CL CR)
  deed : ∃ f fd, Fb K mg "_law_deed" sDeed ["_law_row", "_law_h"] f fd ∧ FnOk P w K mg base CX0 2 f fd ["_law_row", "_law_h"] (spDeed K)
  does : ∃ f fd, Fb K mg "_law_does" sDoes ["_law_h", "_law_deed_here"] f fd ∧ FnOk P w K mg base CX0 4 f fd ["_law_h", "_law_deed_here"] (spDoes T)
  asked : ∃ f fd, Fb K mg "_law_asked" sAsked ["_law_live", "_law_deed_here"] f fd ∧ FnOk P w K mg base (L2.CX P w) 12 f fd ["_law_live", "_law_deed_here"] (spAsked CL CR CNm CMy CU T)
  told : ∃ f fd, Fb K mg "_law_told" sTold ["_law_live"] f fd ∧ FnOk P w K mg base CX0 3 f fd ["_law_live"] (spTold CL CR)
  undo : ∃ f fd, Fm K CL "undo" "LiveRoad.undo" sLiveRoadUndo ["self"] f fd ∧ FnOk P w K mg base CX0 1 f fd ["self"] (spUndo CL CR T)
  redo : ∃ f fd, Fm K CL "redo" "LiveRoad.redo" sLiveRoadRedo ["self"] f fd ∧ FnOk P w K mg base CX0 1 f fd ["self"] (spRedo CL CR T)
  hist : ∃ d, PropOf K CL "history" pS fS ∧ Binds K d ["self"] [] ∧ FnOk P w K mg base CX0 1 fS d ["self"] (spLHist CL CR)
  apply : ∃ f, Meth K CL "apply" f ∧ FnR P w K mg base (L2.CX P w) 10 f (spApply CL CR CNm CMy CU c4 T)
  after : ∃ f, Meth K CL "arrivals_after" f ∧ FnR P w K mg base (L2.CX P w) 10 f (spAfter CL CR T)
  replay : ClX.CRead K CL mc ∧ ClX.CMet K CL mc "replay" pR fR ∧ ∃ d, Binds K d ["cls", "road", "operations"] [] ∧ FnOk P w K mg base (L2.CX P w) 11 fR d ["cls", "road", "operations"] (spReplay CL CR T)
  rO : RsJ K CE c0 c1 c2 c3 c4 c5 c4 4
  raised : ∃ g cdv, Teller K mg "_law_raised" "_law_work" g nRaised (defBody sRaised) (defScope sRaised) cdv
section
variable {P : Program} {w : World} {K : PySem.W.Frag} {mg : Str → Option Value} {base : Heap}
def spLaw (K : PySem.W.Frag) (T : List (Addr × Str)) : Sp := fun vs H Q _ => ∃ (sc : Addr) (ns : List Int), vs = [.ref sc] ∧ SqL K H sc (ns.map V.int) ∧ Tabs T H ∧ ∀ H', Q (.bl true) H'
theorem ok_law {f c Pt CR CL C CNm CMy CU CE c0 c1 c2 c3 c4 c5 pO fO pS fS pR fR : Addr} {mc : Value} {fd : FuncData} {T : List (Addr × Str)} (F : FunC K "law" "law" sLaw f fd c) (TB : TabB base mg c Pt) (hm : (Pt, qLaw) ∈ T) (hut : ∀ p ∈ T, p.1 = Pt → p.2 = qLaw) (X9 : Env66 P w K mg base CR CL C CNm CMy CU CE c0 c1 c2 c3 c4 c5 pO fO pS fS pR fR mc T) : FnOk P w K mg base CX0 15 f fd ["_law_script"] (spLaw K T) := by
  refine F.ok scLaw (fun vs H Q E h => ?_) (fun A outer s Hs vs Q E hr h => ?_)
  · obtain ⟨sc, ns, rfl, _⟩ := h
    rfl
  · obtain ⟨sc, ns, rfl, hsc, hT, k⟩ := h
    have nd := scLaw.nd
    have hu := hu_of hr
    have hu64 := hr.units
    have M := X9.M
    have LT := X9.LT
    have RT := X9.RT
    obtain ⟨_, _, BTk, GTk⟩ := X9.taken
    obtain ⟨_, _, BUn0, GUn0⟩ := X9.units
    obtain ⟨_, _, BSe, GSe⟩ := X9.secs
    obtain ⟨mgR, cr, cm, _, bO, GO⟩ := X9.road
    obtain ⟨_, _, MKL, mgL, bLI, GLI⟩ := X9.make
    obtain ⟨_, _, BDe, GDe⟩ := X9.deed
    obtain ⟨_, _, BDo, GDo⟩ := X9.does
    obtain ⟨_, _, BAs, GAs⟩ := X9.asked
    obtain ⟨_, _, BTo, GTo⟩ := X9.told
    obtain ⟨_, _, BUn, GUn⟩ := X9.undo
    obtain ⟨_, _, BRe, GRe⟩ := X9.redo
    obtain ⟨_, PHi, bHi, GHi⟩ := X9.hist
    obtain ⟨_, MAp, GAp⟩ := X9.apply
    obtain ⟨_, MAf, GAf⟩ := X9.after
    obtain ⟨crL, cmL, _, bRp, GRp⟩ := X9.replay
    obtain ⟨_, _, WT⟩ := X9.raised
    have room : ∀ n, n ≤ 14 → Room n (A.deeper (PyProof.Rows.envOfC "law" (defScope sLaw) s.heap.objs.size f (.ref c))) := fun n h => hr.mono h
    have hr1 := room 1 (by decide)
    have hr2 := room 2 (by decide)
    have hr3 := room 3 (by decide)
    have hr4 := room 4 (by decide)
    have hr5 := room 5 (by decide)
    have hr10 := room 10 (by decide)
    have hr11 := room 11 (by decide)
    have hr12 := room 12 (by decide)
    have hr14 : Room (12 + 2) (A.deeper (PyProof.Rows.envOfC "law" (defScope sLaw) s.heap.objs.size f (.ref c))) := room 14 (by decide)
    refine ⟨_, (pss_cons (ps_set (i := 1) nd rfl (.inl rfl) (pe_lst (pa_cons (pv 0) (pa_cons pe_int (pa_cons pe_int (pa_cons pe_int pa_nil)))))) (pss_cons (ps_set (i := 2) nd rfl (.inl rfl) (pe_call GUn0 hr2 (by rfl) BUn0.at_ BUn0.fn.kp BUn0.bd .nil pass0 (pa_cons (pv 1) (pa_cons pe_int pa_nil)))) (pss_cons (ps_set (i := 3) nd rfl (.inl rfl) (ClX.pe_cmeth (pe_glob (v := .ref CR) (by rfl) mgR rfl) cr cm (GO.raw bO .nil) hr5 pass0 (pa_cons (pv 2) pa_nil))) (pss_cons (ps_asg (pe_tup (pa_cons (pe_make MKL GLI hr2 (by rfl) mgL bLI .nil pass0 (pa_cons (pv 3) pa_nil)) (pa_cons (pe_tup (pa_cons (pe_call GSe hr1 (by rfl) BSe.at_ BSe.fn.kp BSe.bd .nil pass0 (pa_cons (pv 2) pa_nil)) (pa_cons (pe_tup pa_nil) pa_nil))) (pa_cons (pe_lst pa_nil) (pa_cons (pe_lst pa_nil) pa_nil))))) (pg_tup rfl (pgs_cons (pg_name (i := 4) nd rfl (.inr rfl)) (pgs_cons (pg_name (i := 5) nd rfl (.inl rfl)) (pgs_cons (pg_name (i := 6) nd rfl (.inl rfl)) (pgs_cons (pg_name (i := 7) nd rfl (.inl rfl)) pgs_nil)))))) (pss_cons (ps_for PassesOwn.never rfl (pi_range1 (by rfl) M.range (pa_cons (pe_call GTk hr1 (by rfl) BTk.at_ BTk.fn.kp BTk.bd .nil pass0 (pa_cons (pv 1) (pa_cons pe_int pa_nil))) pa_nil)) (pg_name (i := 8) nd rfl (.inl rfl)) (pss_cons (ps_set (i := 9) nd rfl (.inl rfl) (pe_call GDe hr2 (by rfl) BDe.at_ BDe.fn.kp BDe.bd .nil pass0 (pa_cons (pv 1) (pa_cons (pv 5) pa_nil)))) (pss_cons (ps_asg (pe_call GDo hr4 (by rfl) BDo.at_ BDo.fn.kp BDo.bd .nil pass0 (pa_cons (pv 5) (pa_cons (pv 9) pa_nil))) (pg_tup rfl (pgs_cons (pg_name (i := 10) nd rfl (.inl rfl)) (pgs_cons (pg_name (i := 11) nd rfl (.inl rfl)) (pgs_cons (pg_name (i := 12) nd rfl (.inl rfl)) pgs_nil))))) (pss_one (ps_if (pt_cmp (pc_isN (pv 12))) (pss_cons (ps_expr (pe_bm PySem.F.plainAttrs_list PySem.F.slot_list_append PySem.F.type_list_append mt_append (pv 6) (pa_cons (pv 9) pa_nil))) (pss_cons (ps_expr (pe_bm PySem.F.plainAttrs_list PySem.F.slot_list_append PySem.F.type_list_append mt_append (pv 7) (pa_cons (pe_call GTo hr3 (by rfl) BTo.at_ BTo.fn.kp BTo.bd .nil pass0 (pa_cons (pv 4) pa_nil)) pa_nil))) (pss_cons (ps_expr (pe_call GAs hr12 (by rfl) BAs.at_ BAs.fn.kp BAs.bd .nil passE0 (pa_cons (pv 4) (pa_cons (pv 9) pa_nil)))) (pss_one (ps_set (i := 5) nd rfl (.inl rfl) (pv 10)))))) pss_nil))))) (pss_cons (ps_par (i := 13) (j := 14) rfl nd rfl rfl (by decide) rfl rfl (pa_cons (pe_call GTo hr3 (by rfl) BTo.at_ BTo.fn.kp BTo.bd .nil pass0 (pa_cons (pv 4) pa_nil)) (pa_cons (ClX.pe_cmeth (pe_glob (v := .ref CL) (by rfl) mgL rfl) crL cmL (GRp.raw bRp .nil) hr11 passE0 (pa_cons (pv 3) (pa_cons (pv 6) pa_nil))) pa_nil)) rfl) (pss_cons (ps_if (pt_cmpR (op_neD hu64) (pe_prop (pv 14) LT.cl PHi GHi hr2 bHi .nil pass0 rfl) (pv 6) (nomark _)) (pss_one (ps_ret pe_bl)) pss_nil) (pss_cons (ps_if (pt_cmpR (op_neD hu64) (pe_call GTo hr3 (by rfl) BTo.at_ BTo.fn.kp BTo.bd .nil pass0 (pa_cons (pv 14) pa_nil)) (pv 13) (nomark _)) (pss_one (ps_ret pe_bl)) pss_nil) (pss_cons (ps_if (pt_cmpR (op_neD hu64) (pe_prop (ClX.pe_cmeth (pe_glob (v := .ref CL) (by rfl) mgL rfl) crL cmL (GRp.raw bRp .nil) hr11 passE0 (pa_cons (pv 3) (pa_cons (pe_lst pa_nil) pa_nil))) LT.cl PHi GHi hr2 bHi .nil pass0 rfl) (pe_lst pa_nil) (nomark _)) (pss_one (ps_ret pe_bl)) pss_nil) (pss_cons (ps_set (i := 15) nd rfl (.inl rfl) (pe_told WT (by rfl) (raised_gives M RT) hr14 (pe_lamV TB rfl hm hut (lamS2_by (N := nLaw) (sc := defScope sLaw) (by decide +kernel))))) (pss_cons (ps_if (PW.pt (pw_or (pt_cmpR (op_neD hu64) (pv 15) (pe_tup (pa_cons pe_str (pa_cons pe_str pa_nil))) (nomark _)) (pw_or1 (pt_cmpR (op_neD hu64) (pe_call GTo hr3 (by rfl) BTo.at_ BTo.fn.kp BTo.bd .nil pass0 (pa_cons (pv 4) pa_nil)) (pv 13) (nomark _))))) (pss_one (ps_ret pe_bl)) pss_nil) (pss_cons (ps_set (i := 16) nd rfl (.inl rfl) (pe_methR (pv 4) LT.cl MAf GAf hr10 passE0 (pa_cons (pe_tup (pa_cons pe_str (pa_cons pe_int (pa_cons pe_str pa_nil)))) pa_nil))) (pss_cons (ps_if (pt_cmpR (op_neDD hu64) (pv 16) (pe_methR (pv 14) LT.cl MAf GAf hr10 passE0 (pa_cons (pe_tup (pa_cons pe_str (pa_cons pe_int (pa_cons pe_str pa_nil)))) (pa_cons (pe_tup (pa_cons pe_str (pa_cons pe_int (pa_cons pe_str pa_nil)))) pa_nil))) (nomark _)) (pss_one (ps_ret pe_bl)) pss_nil) (pss_cons (ps_if (pt_cmpR (op_neD hu64) (pe_prop (pv 4) LT.cl PHi GHi hr2 bHi .nil pass0 rfl) (pv 6) (nomark _)) (pss_one (ps_ret pe_bl)) pss_nil) (pss_cons (ps_for PassesOwn.never rfl (pi_range3 (by rfl) M.range (pa_cons (pe_op op_sub (pe_callB call_len_seq (by rfl) M.len boot_len (pa_cons (pv 6) pa_nil)) pe_int) (pa_cons (pe_un un_neg pe_int) (pa_cons (pe_un un_neg pe_int) pa_nil)))) (pg_name (i := 17) nd rfl (.inl rfl)) (pss_one (ps_if (PW.pt (pw_or (pt_not (pt_val (pe_meth0 (pv 4) LT.cl BUn.at_ GUn hr1 BUn.bd .nil pass0))) (pw_or1 (pt_cmpR (op_neD hu64) (pe_call GTo hr3 (by rfl) BTo.at_ BTo.fn.kp BTo.bd .nil pass0 (pa_cons (pv 4) pa_nil)) (pe_ix (r := rIxL K) ix_list (pv 7) (pv 17) (fun _ _ => rfl)) (nomark _))))) (pss_one (ps_ret pe_bl)) pss_nil))) (pss_cons (ps_if (PW.pt (pw_or (pt_val (pe_meth0 (pv 4) LT.cl BUn.at_ GUn hr1 BUn.bd .nil pass0)) (pw_or1 (pt_cmpR (op_neD hu64) (pe_prop (pv 4) LT.cl PHi GHi hr2 bHi .nil pass0 rfl) (pe_lst pa_nil) (nomark _))))) (pss_one (ps_ret pe_bl)) pss_nil) (pss_cons (ps_if (pt_cmpR (op_neD hu64) (pe_told WT (by rfl) (raised_gives M RT) hr14 (pe_lamV TB rfl hm hut (lamS2_by (N := nLaw) (sc := defScope sLaw) (by decide +kernel)))) (pe_tup (pa_cons pe_str (pa_cons pe_int pa_nil))) (nomark _)) (pss_one (ps_ret pe_bl)) pss_nil) (pss_cons (ps_for PassesOwn.never rfl (pi_range1 (by rfl) M.range (pa_cons (pe_callB call_len_seq (by rfl) M.len boot_len (pa_cons (pv 6) pa_nil)) pa_nil)) (pg_name (i := 17) nd rfl (.inl rfl)) (pss_one (ps_if (PW.pt (pw_or (pt_not (pt_val (pe_meth0 (pv 4) LT.cl BRe.at_ GRe hr1 BRe.bd .nil pass0))) (pw_or1 (pt_cmpR (op_neD hu64) (pe_prop (pv 4) LT.cl PHi GHi hr2 bHi .nil pass0 rfl) (pe_slice sl_list (pv 6) po_none (po_some (pe_op op_add (pv 17) pe_int))) (nomark _))))) (pss_one (ps_ret pe_bl)) pss_nil))) (pss_one (ps_ret (pe_and (pe_not (pe_meth0 (pv 4) LT.cl BRe.at_ GRe hr1 BRe.bd .nil pass0)) (pe_and (pe_cmpR (op_eqD hu64) (pe_call GTo hr3 (by rfl) BTo.at_ BTo.fn.kp BTo.bd .nil pass0 (pa_cons (pv 4) pa_nil)) (pv 13) (nomark _)) (pe_one (pe_cmpR (op_eqD hu64) (pe_meth0R (pv 4) LT.cl MAp GAp hr10 passE0) (pe_lst pa_nil) (nomark _))))))))))))))))))))))))), ?_⟩
    -- the row
    refine ⟨_, rfl, by show 4 ≤ sizeLine; decide, fun r hr0 => ?_⟩
    have s0 := sameNew hr0 (.lst [V.ref sc, V.int 0, V.int 0, V.int 0])
    have R0 : RowAt K (upd Hs r (.lst [V.ref sc, V.int 0, V.int 0, V.int 0])) r sc ns := by
      refine ⟨⟨0, 0, 0, upd_same⟩, fun H' k' => ?_⟩
      rcases hsc with (h | ⟨o, h⟩) | h
      · exact .inl (.inl (k' _ _ (s0 _ _ h) (ne_of_none h hr0)))
      · exact .inl (.inr ⟨o, k' _ _ (s0 _ _ h) (ne_of_none h hr0)⟩)
      · exact .inr h
    have T0 := hT.ext s0
    generalize upd Hs r (.lst [V.ref sc, V.int 0, V.int 0, V.int 0]) = H0 at s0 R0 T0 ⊢
    -- the road
    refine ⟨_, rfl, r, sc, ns, 6, rfl, by decide, by decide, R0, fun H1 u bs k1 R1 hu1 b1 b36 b6 => ?_⟩
    have T1 := Tabs.row T0 R0 k1
    have SO : SecsOk (runsOf bs) := secsOk_runs (m := 6) b1 (by omega) (by omega)
    clear s0 R0 T0 k1 hsc hr0 hT
    refine ⟨rfl, _, rfl, u, bs, rfl, hu1, by omega, SO, fun H2 p s2 hp rd2 => ?_⟩
    have R2 := R1.same s2
    have T2 := T1.ext s2
    clear s2 hp T1 R1
    refine ⟨_, rfl, fun x dx hx hdx ne => ?_⟩
    have S3 : Same H2 (upd (upd H2 dx (.own x)) x (.ins CL dx [])) := fun b o e => by rw [upd_ne (ne_of_none e hx), upd_ne (ne_of_none e hdx)]; exact e
    refine ⟨H2, x, dx, p, runsOf bs, rfl, upd_same, S3, hx, rd2, SO, fun H3 s3 lv3 => ⟨rfl, ?_⟩⟩
    have R3 := R2.same s3
    have T3 := T2.ext s3
    have rd3 := rd2.ext (ExtN.same s3)
    clear S3 hx hdx ne s3 R2 T2 rd2
    refine ⟨_, rfl, u, bs, rfl, hu1, by omega, fun H4 l s4 hl rn4 => ?_⟩
    refine ⟨by show 0 ≤ sizeLine; decide, fun ce hce => ⟨by show 2 ≤ sizeLine; decide, fun h hh => ⟨by show 0 ≤ sizeLine; decide, fun D1 hD1 => ⟨by show 0 ≤ sizeLine; decide, fun D2 hD2 => ⟨by show 4 ≤ sizeLine; decide, fun t5 ht5 => ?_⟩⟩⟩⟩⟩
    obtain ⟨S0, hS0⟩ : ∃ S : St2, S = (runsOf bs, []) := ⟨_, rfl⟩
    have e0 : S0 = (S0.1, []) := by subst hS0; rfl
    have s5a := sameNew hce (.tup [])
    have s5b := sameNew hh (.tup [V.ref l, V.ref ce])
    have s5d := sameNew hD1 (.lst [])
    have s5e := sameNew hD2 (.lst [])
    have s5c := sameNew ht5 (.tup [V.ref x, V.ref h, V.ref D1, V.ref D2])
    have sb := s4.trans (s5a.trans s5b)
    have s5 := sb.trans (s5d.trans (s5e.trans s5c))
    have R4b := R3.same sb
    have lv4b := lv3.ext (ExtN.same sb)
    have n12 : D1 ≠ D2 := fun z => by rw [← z, upd_same] at hD2; cases hD2
    have scD : ∀ {HD : Hp} {D : Addr}, RowAt K HD r sc ns → HD D = none → ScOff K sc D ns := fun R hn => by
      obtain ⟨a, b, c, hr⟩ := R.at_
      by_cases hk : ∀ H, SqL K H sc (ns.map V.int)
      · exact .inr hk
      · refine .inl fun z => hk fun H => ?_
        rcases R.scr _ (fun _ _ e _ => e) with (q | ⟨o, q⟩) | q
        · rw [z, hn] at q
          cases q
        · rw [z, hn] at q
          cases q
        · exact .inr q
    have sc1 := scD R4b hD1
    have sc2 := scD (R4b.same s5d) hD2
    obtain ⟨sl, ul, ks, ku, l1, l2, l3⟩ := lv4b
    have nu : ∀ D ∈ [D1, D2], ul ≠ D := fun D hd => by
      obtain ⟨_, q, _⟩ := l3
      rcases List.mem_cons.mp hd with rfl | hd
      · exact ne_of_none q hD1
      · rw [List.mem_singleton.mp hd]
        exact ne_of_none (s5d _ _ q) hD2
    have lv5 : LvU CL CR _ x dx [((runsOf bs, []), none)] [] [D1, D2] := LvU.ext (H' := upd (upd (upd (upd (upd H4 ce (.tup [])) h (.tup [V.ref l, V.ref ce])) D1 (.lst [])) D2 (.lst [])) t5 (.tup [V.ref x, V.ref h, V.ref D1, V.ref D2])) ⟨sl, ul, ks, ku, l1, l2, l3, nu⟩ (ExtN.same (s5d.trans (s5e.trans s5c)))
    have F5 : LawJ K CL CR T (upd (upd (upd (upd (upd H4 ce (.tup [])) h (.tup [V.ref l, V.ref ce])) D1 (.lst [])) D2 (.lst [])) t5 (.tup [V.ref x, V.ref h, V.ref D1, V.ref D2])) r sc p x dx h D1 D2 ns S0 [] 0 := by
      subst hS0
      exact ⟨R3.same s5, T3.ext s5, rd3.ext (ExtN.same s5), lv5, ⟨l, ce, s5c _ _ (s5e _ _ (s5d _ _ upd_same)), rn4.ext (ExtN.same (s5a.trans (s5b.trans (s5d.trans (s5e.trans s5c))))), [], s5c _ _ (s5e _ _ (s5d _ _ (s5b _ _ upd_same))), rfl, fun _ _ _ z => (nomatch z)⟩,
        ⟨[], s5c _ _ (s5e _ _ upd_same), rfl, fun _ _ _ z => (nomatch z)⟩, ⟨[], s5c _ _ upd_same, rfl, fun _ _ _ z => (nomatch z)⟩, True.intro, ⟨⟨SO, ⟨(fun _ z => nomatch z), List.nodup_nil, Nat.zero_le _⟩⟩, (fun _ z => nomatch z)⟩, (fun _ z => nomatch z), Nat.le_refl _⟩
    refine ⟨t5, _, rfl, SqT.of upd_same, rfl, _, _, rfl, _, _, rfl, _, _, rfl, _, _, rfl, rfl, ?_⟩
    generalize upd (upd (upd (upd (upd H4 ce (.tup [])) h (.tup [V.ref l, V.ref ce])) D1 (.lst [])) D2 (.lst [])) t5 (.tup [V.ref x, V.ref h, V.ref D1, V.ref D2]) = H5 at F5 ⊢
    clear lv5 s5a s5b s5c s5d s5e s5 sb s4 hce hh ht5 hD1 hD2 rn4 hl R3 R4b T3 lv3 rd3 hS0 SO hu1 scD nu l1 l2 l3
    -- the operations
    refine ⟨_, rfl, r, sc, ns, 12, rfl, by decide, by decide, F5.row, fun H7 tn k7 R7 htn => ?_⟩
    have F7 := F5.keep k7 R7
    clear F5 k7 R7
    refine ⟨_, rfl, by omega, by omega, ?_⟩
    refine for_it walk_range (fun i σ H => ∃ (h : Addr) (rs : List (St2 × Op)) (w8 w9 w10 w11 w12 : Option V), σ = [some (.ref sc), some (.ref r), some (.str u), some (.ref p), some (.ref x), some (.ref h), some (.ref D1), some (.ref D2), w8, w9, w10, w11, w12, none, none, none, none, none] ∧ LawJ K CL CR T H r sc p x dx h D1 D2 ns S0 rs i)
      ⟨h, [], none, none, none, none, none, rfl, F7⟩ (fun _ _ _ _ _ => True.intro) ?_ ?_
    · clear F7 h
      rintro i y σ Hz H hi ⟨h, rs, w8, w9, w10, w11, w12, rfl, F⟩ ⟨e, hy⟩
      subst e
      refine gname_to ?_
      obtain ⟨ok1, le1⟩ := F.ok
      have hfew := F.few
      refine ⟨_, rfl, _, rfl, r, sc, h, ns, lastS S0 rs, 8 * i, rfl, F.row, F.hh, ok1, le1, by omega, fun H1 t o k1 R1 ht1 flo oko lo => ?_⟩
      have F1 := F.keep k1 R1
      clear F k1 R1
      refine gname_to ?_
      obtain ⟨ql, hql⟩ := hisL_last S0 rs
      refine ⟨_, rfl, _, rfl, h, t, lastS S0 rs, o, rfl, F1.hh, ht1, ok1, oko, F1.tab, fun e he H2 tt w e2 T2 htt hw => ?_, fun S' rr he H2 tt h' v e2 T2 htt hh' rs' => ?_⟩
      · refine ⟨tt, _, rfl, SqT.of htt, rfl, _, _, rfl, _, _, rfl, _, _, rfl, rfl, ?_⟩
        refine ⟨_, rfl, _, rfl, ?_⟩
        rw [decide_eq_false (fun z => (nomatch z))]
        exact iteF ⟨h, rs, _, _, _, _, _, rfl, (F1.ext e2 T2).up⟩
      · refine ⟨tt, _, rfl, SqT.of htt, rfl, _, _, rfl, _, _, rfl, _, _, rfl, rfl, ?_⟩
        have F2 := F1.ext e2 T2
        have t2 := ExtN.tup e2 ht1
        clear F1 ht1 e2 T2 htt rs'
        refine ⟨_, rfl, _, rfl, ?_⟩
        rw [decide_eq_true rfl]
        refine iteT ?_
        have okS := step_ok ok1 oko he
        have leS := lo S' rr he
        have neP : ∀ S ∈ (pastL S0 rs).map (·.2), S.1 ≠ [] := past_ok (P := fun S => S.1 ≠ []) rs S0 F2.g0.1.so.ne fun q hq => (F2.gd q hq).1.1.so.ne
        have neH : hisL S0 rs ≠ [] := fun z => (nomatch z)
        -- its operation
        have O1 := F2.dd.oth
        obtain ⟨xs1, d1, d2, d3⟩ := F2.dd.put t2
        have nr1 : r ≠ D1 := by
          obtain ⟨bs, hb⟩ := O1.at_
          exact (F2.row.neR hb).symm
        refine ⟨_, rfl, .inl ⟨rfl, _, SqL.of d1⟩, _, rfl, D1, xs1, .ref t, rfl, rfl, d1, by rw [d2, List.length_map]; exact small1000 (by omega), ?_⟩
        have rowA := F2.row.off (o := .lst (xs1 ++ [.ref t])) nr1 sc1
        have tabA := Tabs.oth (q := .lst (xs1 ++ [.ref t])) F2.tab O1
        have rdA := RoadAt.oth (q := .lst (xs1 ++ [.ref t])) F2.rd O1
        have lvA := LvU.oth (q := .lst (xs1 ++ [.ref t])) F2.lv neH O1 List.mem_cons_self
        have hhA := HAt.oth (q := .lst (xs1 ++ [.ref t])) hh' okS.so.ne O1
        have tlA := ToldAt.other (q := .lst (xs1 ++ [.ref t])) F2.tl neP O1 n12.symm
        have tA := O1.put (q := .lst (xs1 ++ [.ref t])) t2 (fun _ z => (nomatch z))
        have g0 := F2.g0
        have gd := F2.gd
        have chA := chain_snoc rs S0 F2.ch oko he
        generalize upd H2 D1 (.lst (xs1 ++ [.ref t])) = H3 at d3 rowA tabA rdA lvA hhA tlA tA ⊢
        clear F2 t2 d1 d2 hh' O1 xs1
        -- what is told
        refine ⟨_, rfl, .inl ⟨rfl, _, SqL.of tlA.oth.at_.choose_spec⟩, _, rfl, x, dx, hisL S0 rs, [], lastS S0 rs, ql, rfl, lvA.at_, hql, ok1, fun H4 l4 s4 tl4 => ?_⟩
        have tl4' := tlA.nk (Kg.same s4)
        have O2 := tl4'.oth
        obtain ⟨xs2, e1, e2, e3⟩ := tl4'.put neP tl4 ok1.so.ne
        have rowB0 := rowA.same s4
        have nr2 : r ≠ D2 := by
          obtain ⟨bs, hb⟩ := O2.at_
          exact (rowB0.neR hb).symm
        refine ⟨D2, xs2, .ref l4, rfl, rfl, e1, by rw [e2, List.length_map, pastL_len]; exact small1000 (by omega), ?_⟩
        have rowB := rowB0.off (o := .lst (xs2 ++ [.ref l4])) nr2 sc2
        have tabB := Tabs.oth (q := .lst (xs2 ++ [.ref l4])) (tabA.ext s4) O2
        have rdB := RoadAt.oth (q := .lst (xs2 ++ [.ref l4])) (rdA.ext (ExtN.same s4)) O2
        have lvB := LvU.oth (q := .lst (xs2 ++ [.ref l4])) (lvA.ext (ExtN.same s4)) neH O2 (List.mem_cons_of_mem _ List.mem_cons_self)
        have hhB := HAt.oth (q := .lst (xs2 ++ [.ref l4])) (hhA.same s4) okS.so.ne O2
        have ddB := DeedsAt.other (q := .lst (xs2 ++ [.ref l4])) (d3.nk (Kg.same s4).nk) O2 n12
        have tB := O2.put (q := .lst (xs2 ++ [.ref l4])) (s4 _ _ tA) (fun _ z => (nomatch z))
        generalize upd H4 D2 (.lst (xs2 ++ [.ref l4])) = H5 at e3 rowB tabB rdB lvB hhB ddB tB ⊢
        clear d3 rowA tabA rdA lvA hhA tlA tA tl4 tl4' O2 e1 e2 rowB0 s4
        -- it is done
        refine ⟨_, rfl, _, rfl, x, dx, t, hisL S0 rs, [], lastS S0 rs, o, rfl, tB, ⟨lvB.at_, ⟨ql, hql⟩, ok1, tabB, by rw [hisL_len]; omega⟩, oko, fun e' he' => (by rw [he] at he'; cases he'), fun S2 r2 he' H6 u6 kp6 T6 lv6 un6 _ => ?_⟩
        rw [he] at he'
        obtain ⟨rfl, rfl⟩ : S' = S2 ∧ rr = r2 := Prod.mk.inj (Sum.inr.inj he')
        obtain ⟨fs, hx5, _⟩ := lvB.at_.ins
        have kg := Kg.kp hx5 kp6
        obtain ⟨sl, ul, ks, ku, hx5', _⟩ := lvB
        refine ⟨_, rfl, h', rs ++ [(S', o)], _, _, _, _, _, rfl, rowB.kg kg, T6, rdB.kp hx5' kp6, ?_, by rw [lastS_snoc]; exact hhB.nk kg.nk, by rw [List.map_append]; exact ddB.nk kg.nk, by rw [past_snoc]; exact e3.nk kg, chA, ⟨g0.1, g0.2.up (by omega)⟩, fun q hq => ?_, by rw [List.length_append]; show rs.length + 1 ≤ i + 1; omega⟩
        · rw [hisL_snoc]
          refine LvU.of lv6 un6 fun D hd => ?_
          rcases List.mem_cons.mp hd with rfl | hd
          · obtain ⟨bs, hb⟩ := ddB.oth.at_
            exact ⟨_, hb⟩
          · rw [List.mem_singleton.mp hd]
            obtain ⟨bs, hb⟩ := e3.oth.at_
            exact ⟨_, hb⟩
        · rcases List.mem_append.mp hq with hq | hq
          · exact ⟨⟨(gd q hq).1.1, (gd q hq).1.2.up (by omega)⟩, (gd q hq).2⟩
          · rw [List.mem_singleton.mp hq]
            exact ⟨⟨okS, leS.up (by omega)⟩, flo⟩
    rintro σ H ⟨h, rs, w8, w9, w10, w11, w12, rfl, F⟩
    clear F7
    have few12 : rs.length ≤ 12 := by have := F.few; omega
    obtain ⟨ok1, _⟩ := F.ok
    obtain ⟨q1, hq1⟩ := hisL_last S0 rs
    have oksR := chain_oks rs S0 F.ch
    obtain ⟨vs1, run1⟩ := chain_run rs S0 F.ch
    have fl1 : ∀ o ∈ rs.map (fun r => r.2.vs), ∀ v ∈ o, FlOk v := fun o ho => by
      obtain ⟨q, hq, rfl⟩ := List.mem_map.mp ho
      exact (F.gd q hq).2
    have mapV : (rs.map (·.2)).map Op.vs = rs.map (fun r => r.2.vs) := by rw [List.map_map]; rfl
    -- what it tells last; the same anew
    refine ⟨_, rfl, x, dx, hisL S0 rs, [], lastS S0 rs, q1, rfl, F.lv.at_, hq1, ok1, fun H1 l1 s1 tl1 => ?_⟩
    have F1 := F.same s1
    clear F s1
    obtain ⟨bs1, b1, b2, b3⟩ := id F1.dd
    refine ⟨rfl, _, rfl, _, rfl, p, D1, S0.1, bs1, rs.map (·.2), unL rs, vs1, rfl, F1.rd, F1.g0.1.so, b1, by rw [b2, List.length_map]; omega, b2, b3, by rw [← e0]; exact oksR, F1.tab, by rw [← e0]; exact run1, fun H2 x2 dx2 e2 T2 lv2 => ?_⟩
    have F2 := F1.ext e2 T2
    have tl2 : TellAt H2 l1 (lastS S0 rs) := by
      obtain ⟨ra, aa, z1, z2, z3⟩ := tl1
      exact ⟨ra, aa, ExtN.lst e2 z1, z2.ext e2, z3.ext e2⟩
    have lv2 : LvAt CL CR H2 x2 dx2 (hisL S0 rs) (unL []) := by rw [← e0] at lv2; exact lv2
    clear F1 tl1 b1 b2 b3 bs1 e2 T2
    refine ⟨_, _, rfl, ?_⟩
    -- its history
    obtain ⟨fs2, hx2, hno2⟩ := lv2.ins
    refine ⟨_, rfl, x2, dx2, _, rfl, hx2, x2, dx2, S0, rs, unL [], rfl, lv2, by omega, fun H3 l3 s3 n3 tp3 => ?_⟩
    have F3 := F2.same s3
    have lv3 := lv2.ext (ExtN.same s3)
    have tl3 : TellAt H3 l1 (lastS S0 rs) := by
      obtain ⟨ra, aa, z1, z2, z3⟩ := tl2
      exact ⟨ra, aa, s3 _ _ z1, z2.ext (ExtN.same s3), z3.same s3⟩
    clear F2 lv2 tl2 hx2 hno2 fs2 s3
    have dp3 := dp_hist (K := K) fl1 (mapV ▸ F3.dd.tups)
    refine ⟨_, rfl, histD _, histD _, dp_hist fl1 tp3, dp3, (shp_histD fl1).ok (by decide), (shp_histD fl1).ok (by decide), _, rfl, ?_⟩
    rw [show (!PyData.eqv (histD (rs.map fun r => r.2.vs)) (histD (rs.map fun r => r.2.vs))) = false by rw [(shp_histD fl1).same]; rfl]
    refine iteF ?_
    clear dp3 tp3 n3 l3
    -- what it tells
    refine ⟨_, rfl, x2, dx2, hisL S0 rs, unL [], lastS S0 rs, q1, rfl, lv3, hq1, ok1, fun H4 l4 s4 tl4 => ?_⟩
    have F4 := F3.same s4
    have lv4 := lv3.ext (ExtN.same s4)
    have tl4' : TellAt H4 l1 (lastS S0 rs) := by
      obtain ⟨ra, aa, z1, z2, z3⟩ := tl3
      exact ⟨ra, aa, s4 _ _ z1, z2.ext (ExtN.same s4), z3.same s4⟩
    clear F3 lv3 tl3 s4
    refine ⟨_, rfl, tellD (lastS S0 rs), tellD (lastS S0 rs), dp_tell tl4, dp_tell tl4', (shp_tell ok1).ok (by decide), (shp_tell ok1).ok (by decide), _, rfl, ?_⟩
    rw [show (!PyData.eqv (tellD (lastS S0 rs)) (tellD (lastS S0 rs))) = false by rw [(shp_tell ok1).same]; rfl]
    refine iteF ?_
    clear tl4 l4
    -- none done again
    refine ⟨rfl, _, rfl, by show 0 ≤ sizeLine; decide, fun ze hze => ?_⟩
    have s5 := sameNew hze (.lst [])
    have F5 := F4.same s5
    have lv5 := lv4.ext (ExtN.same s5)
    have tl5 : TellAt (upd H4 ze (.lst [])) l1 (lastS S0 rs) := by
      obtain ⟨ra, aa, z1, z2, z3⟩ := tl4'
      exact ⟨ra, aa, s5 _ _ z1, z2.ext (ExtN.same s5), z3.same s5⟩
    refine ⟨p, ze, S0.1, [], [], [], [], rfl, F5.rd, F5.g0.1.so, upd_same, by decide, rfl, (fun _ _ _ z => nomatch z), True.intro, F5.tab, rfl, fun H6 x3 dx3 e6 T6 lv6 => ?_⟩
    have F6 := F5.ext e6 T6
    have lvO6 := lv5.ext e6
    have tl6 : TellAt H6 l1 (lastS S0 rs) := by
      obtain ⟨ra, aa, z1, z2, z3⟩ := tl5
      exact ⟨ra, aa, ExtN.lst e6 z1, z2.ext e6, z3.ext e6⟩
    clear F4 lv4 tl4' F5 lv5 tl5 s5 hze e6 T6
    have lv6 : LvAt CL CR H6 x3 dx3 (hisL S0 []) (unL []) := by rw [← e0] at lv6; exact lv6
    obtain ⟨fs6, hx6, hno6⟩ := lv6.ins
    refine ⟨x3, dx3, _, rfl, hx6, x3, dx3, S0, [], unL [], rfl, lv6, by decide, fun H7 l7 s7 n7 tp7 => ?_⟩
    refine ⟨by show 0 ≤ sizeLine; decide, fun zf hzf => ?_⟩
    have s8 := sameNew hzf (.lst [])
    have F8 := F6.same (s7.trans s8)
    have lv8 := lvO6.ext (ExtN.same (s7.trans s8))
    have tl8 : TellAt (upd H7 zf (.lst [])) l1 (lastS S0 rs) := by
      obtain ⟨ra, aa, z1, z2, z3⟩ := tl6
      exact ⟨ra, aa, s8 _ _ (s7 _ _ z1), z2.ext (ExtN.same (s7.trans s8)), z3.same (s7.trans s8)⟩
    refine ⟨histD [], histD [], dp_hist (fun _ z => nomatch z) (tp7.same s8), .lst (SqL.of upd_same) .nil, rfl, rfl, _, rfl, ?_⟩
    rw [show (!PyData.eqv (histD []) (histD [])) = false from rfl]
    refine iteF ?_
    generalize upd H7 zf (.lst []) = H8 at F8 lv8 tl8 ⊢
    clear F6 lvO6 tl6 lv6 hx6 hno6 fs6 s7 n7 tp7 l7 s8 hzf
    -- an operation that is good, and one of a car that is not there
    have hpos : 0 < (lastS S0 rs).1.length := List.length_pos_iff.mpr ok1.so.ne
    have hzz : ("zz" : Str) ∉ names (lastS S0 rs).2 := fun z => by
      obtain ⟨c, hc, e⟩ := List.mem_map.mp z
      exact (F8.ok.2 c hc).2 e
    have bad1 : runO (lastS S0 rs) [.kind 0 true, .rem "zz"] = .inl (.car "zz") := runO_bad2 (S' := (setK (lastS S0 rs).1 0 true, (lastS S0 rs).2)) rfl (runO_bad (by rw [step_rem, if_neg hzz]))
    refine ⟨F8.tab, fun H9 fl e9 T9 hlam => ⟨fl, _, fun E => tMethR CL "apply" (spApply CL CR CNm CMy CU c4 T) E (tVar 4) (tCons (tTup (tCons (tC (.str "set_kind")) (tCons (tC (.int 0)) (tCons (tC (.str "wide")) tNil)))) (tCons (tTup (tCons (tC (.str "remove")) (tCons (tC (.str "zz")) tNil))) tNil)), rfl, ?_, ?_, ?_, hlam, ?_⟩⟩
    · exact lamS2_by (N := nLaw) (sc := defScope sLaw) (by decide +kernel)
    · exact fun _ _ _ _ _ _ => rfl
    · exact fun A' outer' s' H' E' f' c' hr' => pe_methR (pv 4) LT.cl MAp GAp (hr'.mono (by decide)) (passes_call (takes_of rfl rfl rfl rfl) fun _ _ _ _ h => h) (pa_cons (pe_tup (pa_cons pe_str (pa_cons pe_int (pa_cons pe_str pa_nil)))) (pa_cons (pe_tup (pa_cons pe_str (pa_cons pe_str pa_nil))) pa_nil))
    have F9 := F8.ext e9 T9
    have lv9 := lv8.ext e9
    have tl9 : TellAt H9 l1 (lastS S0 rs) := by
      obtain ⟨ra, aa, z1, z2, z3⟩ := tl8
      exact ⟨ra, aa, ExtN.lst e9 z1, z2.ext e9, z3.ext e9⟩
    clear hlam F8 lv8 tl8 e9 T9
    obtain ⟨fs9, hx9, hno9⟩ := F9.lv.at_.ins
    refine ⟨_, rfl, x, dx, _, rfl, hx9, hno9 _ (by decide +kernel) (by decide +kernel) (by decide +kernel) (by decide +kernel) (by decide +kernel), by show 3 ≤ sizeLine; decide, fun ta hta => ⟨by show 2 ≤ sizeLine; decide, fun tb htb => ?_⟩⟩
    have s10 := sameNew hta (.tup (Op.kind 0 true).vs)
    have s11 := sameNew htb (.tup (Op.rem "zz").vs)
    refine ⟨[.ref x], [.ref ta, .ref tb], rfl, rfl, by show 2 ≤ sizeLine; decide, fun tc htc => ?_⟩
    have s12 := sameNew htc (.tup [V.ref ta, V.ref tb])
    have s1c := s10.trans (s11.trans s12)
    have ta12 := s12 _ _ (s11 _ _ (upd_same (H := H9) (a := ta) (o := .tup (Op.kind 0 true).vs)))
    have tb12 := s12 _ _ (upd_same (H := upd H9 ta (.tup (Op.kind 0 true).vs)) (a := tb) (o := .tup (Op.rem "zz").vs))
    have F12 := F9.same s1c
    have lv12 := lv9.ext (ExtN.same s1c)
    have tl12 := TellAt.ext tl9 (ExtN.same s1c)
    refine ⟨x, dx, tc, hisL S0 rs, [], [ta, tb], rfl, upd_same, (by show 2 ≤ 100; decide), F12.lv.at_, 2, fun i b hi hb => ?_, .inr ⟨rfl, lastS S0 rs, q1, [.kind 0 true, .rem "zz"], hq1, ok1, rfl, fun i b o hb ho => ?_, ⟨hpos, fun _ _ _ => ⟨True.intro, fun _ _ _ => True.intro⟩⟩, F12.tab, by rw [hisL_len]; omega, fun e he H13 cls d e13 T13 hE => ?_, fun ls2 rs2 hr2 => (by rw [bad1] at hr2; cases hr2)⟩⟩
    · match i, hb with
      | 0, hb =>
        cases hb
        exact ⟨_, _, ta12, by decide +kernel, by decide⟩
      | 1, hb =>
        cases hb
        exact ⟨_, _, tb12, by decide +kernel, by decide⟩
    · match i, hb, ho with
      | 0, hb, ho =>
        cases hb
        cases ho
        exact ta12
      | 1, hb, ho =>
        cases hb
        cases ho
        exact tb12
    rw [bad1] at he
    obtain rfl : Er.car "zz" = e := Sum.inl.inj he
    have F13 := F12.ext e13 T13
    have lv13 := lv12.ext e13
    have tl13 : TellAt H13 l1 (lastS S0 rs) := by
      obtain ⟨ra, aa, z1, z2, z3⟩ := tl12
      exact ⟨ra, aa, ExtN.lst e13 z1, z2.ext e13, z3.ext e13⟩
    refine er_raised X9.rU X9.rN X9.rM hE fun H14 wp s14 hwp => ?_
    have F14 := F13.same s14
    have lv14 := lv13.ext (ExtN.same s14)
    have tl14 := TellAt.ext tl13 (ExtN.same s14)
    clear F9 lv9 tl9 hx9 hno9 fs9 s10 s11 s12 s1c ta12 tb12 F12 lv12 tl12 hta htb htc F13 lv13 tl13 s14 hE e13 T13 he bad1
    have flz : ∀ v ∈ erV (.car "zz"), FlOk v := fun v hv => by
      rcases List.mem_cons.mp hv with rfl | hv
      · exact .s (by decide +kernel)
      · rw [List.mem_singleton.mp hv]
        exact .s (by decide +kernel)
    refine ⟨_, rfl, by show 2 ≤ sizeLine; decide, fun td htd => ?_⟩
    have s15 := sameNew htd (.tup [V.str "car", V.str "zz"])
    refine ⟨erD (.car "zz"), erD (.car "zz"), dp_er (s15 _ _ hwp) flz, dp_er upd_same flz, (shp_er flz).ok (by decide), (shp_er flz).ok (by decide), _, rfl, ?_⟩
    rw [show (!PyData.eqv (erD (.car "zz")) (erD (.car "zz"))) = false by rw [(shp_er flz).same]; rfl]
    refine iteF ?_
    have F15 := F14.same s15
    have lv15 := lv14.ext (ExtN.same s15)
    have tl15 := TellAt.ext tl14 (ExtN.same s15)
    generalize upd H14 td (.tup [V.str "car", V.str "zz"]) = H15 at F15 lv15 tl15 ⊢
    clear F14 lv14 tl14 s15 htd hwp flz
    refine ⟨_, rfl, x, dx, hisL S0 rs, [], lastS S0 rs, q1, rfl, F15.lv.at_, hq1, ok1, fun H16 l16 s16 tl16 => ?_⟩
    have F16 := F15.same s16
    have lv16 := lv15.ext (ExtN.same s16)
    have tl16' := TellAt.ext tl15 (ExtN.same s16)
    clear F15 lv15 tl15 s16
    refine ⟨_, rfl, tellD (lastS S0 rs), tellD (lastS S0 rs), dp_tell tl16, dp_tell tl16', (shp_tell ok1).ok (by decide), (shp_tell ok1).ok (by decide), _, rfl, ?_⟩
    rw [show (!PyData.eqv (tellD (lastS S0 rs)) (tellD (lastS S0 rs))) = false by rw [(shp_tell ok1).same]; rfl]
    refine iteF ?_
    clear tl16 l16
    -- arrivals behind more operations
    obtain ⟨pre1, z1, hz1⟩ : ∃ pre s, hisL S0 rs = pre ++ [s] := by
      rcases List.eq_nil_or_concat (hisL S0 rs) with e | ⟨a, b, e⟩
      · cases e
      · exact ⟨a, b, by rw [e, List.concat_eq_append]⟩
    have okW : StOk (setK (lastS S0 rs).1 0 true, (lastS S0 rs).2) := ⟨setK_ok ok1.so hpos true, ok1.co⟩
    obtain ⟨fs16, hx16, hno16⟩ := F16.lv.at_.ins
    refine ⟨_, rfl, x, dx, _, rfl, hx16, hno16 _ (by decide +kernel) (by decide +kernel) (by decide +kernel) (by decide +kernel) (by decide +kernel), by show 3 ≤ sizeLine; decide, fun ta hta => ?_⟩
    have s17 := sameNew hta (.tup (Op.kind 0 true).vs)
    refine ⟨[.ref x], [.ref ta], rfl, rfl, by show 1 ≤ sizeLine; decide, fun tc htc => ?_⟩
    have s18 := sameNew htc (.tup [V.ref ta])
    have ta18 := s18 _ _ (upd_same (H := H16) (a := ta) (o := .tup (Op.kind 0 true).vs))
    have F18 := F16.same (s17.trans s18)
    have lv18 := lv16.ext (ExtN.same (s17.trans s18))
    have tl18 := TellAt.ext tl16' (ExtN.same (s17.trans s18))
    refine ⟨x, dx, tc, hisL S0 rs, [], [ta], rfl, upd_same, (by show 1 ≤ 100; decide), F18.lv.at_, lastS S0 rs, q1, [.kind 0 true], [((setK (lastS S0 rs).1 0 true, (lastS S0 rs).2), some (.kind 0 true))], _, hisL S0 rs, _, _, hq1, ok1, rfl, fun i b o hb ho => ?_, ⟨hpos, fun _ _ _ => True.intro⟩, F18.tab, by rw [hisL_len]; omega, rfl, rfl, okW, fun H19 da e19 T19 nd19 hda => ?_⟩
    · match i, hb, ho with
      | 0, hb, ho =>
        cases hb
        cases ho
        exact ta18
    have F19 := F18.ext e19 T19
    have lv19 := lv18.ext e19
    have tl19 := TellAt.ext tl18 e19
    clear F16 lv16 tl16' hx16 hno16 fs16 s17 s18 F18 lv18 tl18 ta18 hta htc e19 T19
    have okN : StOk (setK (lastS S0 rs).1 0 false, (lastS S0 rs).2) := ⟨setK_ok ok1.so hpos false, ok1.co⟩
    have twice : setK (setK (lastS S0 rs).1 0 false) 0 true = setK (lastS S0 rs).1 0 true := setK_twice hpos _ _
    obtain ⟨fs19, hx19, hno19⟩ := lv19.ins
    refine ⟨_, rfl, _, rfl, x2, dx2, _, rfl, hx19, hno19 _ (by decide +kernel) (by decide +kernel) (by decide +kernel) (by decide +kernel) (by decide +kernel), by show 3 ≤ sizeLine; decide, fun ta hta => ⟨by show 3 ≤ sizeLine; decide, fun tb htb => ?_⟩⟩
    have s20 := sameNew hta (.tup (Op.kind 0 false).vs)
    have s21 := sameNew htb (.tup (Op.kind 0 true).vs)
    refine ⟨[.ref x2], [.ref ta, .ref tb], rfl, rfl, by show 2 ≤ sizeLine; decide, fun tc htc => ?_⟩
    have s22 := sameNew htc (.tup [V.ref ta, V.ref tb])
    have s2c := s20.trans (s21.trans s22)
    have ta22 := s22 _ _ (s21 _ _ (upd_same (H := H19) (a := ta) (o := .tup (Op.kind 0 false).vs)))
    have tb22 := s22 _ _ (upd_same (H := upd H19 ta (.tup (Op.kind 0 false).vs)) (a := tb) (o := .tup (Op.kind 0 true).vs))
    have F22 := F19.same s2c
    have lv22 := lv19.ext (ExtN.same s2c)
    have tl22 := TellAt.ext tl19 (ExtN.same s2c)
    have da22 := s2c _ _ hda
    have okV : StOk (setK (setK (lastS S0 rs).1 0 false) 0 true, (lastS S0 rs).2) := ⟨by rw [twice]; exact okW.so, ok1.co⟩
    refine ⟨x2, dx2, tc, hisL S0 rs, unL [], [ta, tb], rfl, upd_same, (by show 2 ≤ 100; decide), lv22, lastS S0 rs, q1, [.kind 0 false, .kind 0 true], [((setK (lastS S0 rs).1 0 false, (lastS S0 rs).2), some (.kind 0 false)), ((setK (setK (lastS S0 rs).1 0 false) 0 true, (lastS S0 rs).2), some (.kind 0 true))], _, hisL S0 rs ++ [((setK (lastS S0 rs).1 0 false, (lastS S0 rs).2), some (.kind 0 false))], _, _, hq1, ok1, rfl, fun i b o hb ho => ?_, ⟨hpos, fun S' v h => ?_⟩, F22.tab, by rw [hisL_len]; omega, runO_good rfl (runO_good rfl (runO_nil _)), by rw [List.append_assoc]; rfl, okV, fun H23 db e23 T23 nd23 hdb => ?_⟩
    · match i, hb, ho with
      | 0, hb, ho =>
        cases hb
        cases ho
        exact ta22
      | 1, hb, ho =>
        cases hb
        cases ho
        exact tb22
    · cases h
      exact ⟨by show 0 < (setK _ _ _).length; unfold setK; rw [List.length_set]; exact hpos, fun _ _ _ => True.intro⟩
    rw [twice] at hdb
    have F23 := F22.ext e23 T23
    have lv23 := lv22.ext e23
    have tl23 := TellAt.ext tl22 e23
    have da23 := ExtN.dK e23 da22
    clear F19 lv19 tl19 hx19 hno19 fs19 s20 s21 s22 s2c F22 lv22 tl22 ta22 tb22 hta htb htc e23 T23 okV da22 hda
    refine ⟨da, db, _, _, rfl, rfl, da23, hdb, rfl, fun p hp => ?_, _, rfl, ?_⟩
    · obtain ⟨c, hc, rfl⟩ := List.mem_map.mp hp
      exact ⟨_, arrK_get okW.co.nd (List.mem_map_of_mem hc), _, .int _, .int _, rfl, by show 0 ≤ 8; decide⟩
    refine iteF ?_
    -- its history is as before
    obtain ⟨fs23, hx23, hno23⟩ := F23.lv.at_.ins
    refine ⟨_, rfl, x, dx, _, rfl, hx23, x, dx, S0, rs, [], rfl, F23.lv.at_, by omega, fun H24 l24 s24 n24 tp24 => ?_⟩
    have F24 := F23.same s24
    have tl24 := TellAt.ext tl23 (ExtN.same s24)
    clear F23 lv23 tl23 hx23 hno23 fs23 s24 hdb da23
    have dp24 := dp_hist (K := K) fl1 (mapV ▸ F24.dd.tups)
    refine ⟨_, rfl, histD _, histD _, dp_hist fl1 tp24, dp24, (shp_histD fl1).ok (by decide), (shp_histD fl1).ok (by decide), _, rfl, ?_⟩
    rw [show (!PyData.eqv (histD (rs.map fun r => r.2.vs)) (histD (rs.map fun r => r.2.vs))) = false by rw [(shp_histD fl1).same]; rfl]
    refine iteF ?_
    clear dp24 tp24 n24 l24
    -- all is undone
    have okP : ∀ k, StOk (lastS S0 (rs.take k)) := fun k => lastS_in (P := StOk) F24.g0.1 fun q hq => (F24.gd q (List.mem_of_mem_take hq)).1.1
    have U24 : LawU CL CR T H24 x dx D1 D2 l1 S0 rs rs.length := ⟨F24.tab, F24.dd, F24.tl, tl24, by rw [List.take_length, List.drop_length]; exact F24.lv.at_⟩
    obtain ⟨bs24, b1, b2, b3⟩ := id U24.dd
    have few500 : rs.length ≤ 500 := by omega
    generalize hnn : rs.length = nn at few12 few500
    clear F24 tl24 hq1 ok1 okW okN twice hpos hzz
    have e24 : (bs24.map V.ref).length = nn := by rw [List.length_map, b2, List.length_map, hnn]
    refine ⟨_, rfl, D1, _, rfl, .inl (SqL.of b1), _, _, rfl, rfl, _, rfl, _, rfl, _, _, _, nn, rfl, (by show RgC (((bs24.map V.ref).length : Nat) - 1 : Int) (-1) (-1) nn; rw [e24]; exact rg_down nn (by omega)), ?_⟩
    refine for_it walk_rangeC (fun i σ H => ∃ (k : Nat) (w17 : Option V), σ = [some (.ref sc), some (.ref r), some (.str u), some (.ref p), some (.ref x), some (.ref h), some (.ref D1), some (.ref D2), w8, w9, w10, w11, w12, some (.ref l1), some (.ref x2), some (.ref wp), some (.ref da), w17] ∧ k + i = nn ∧ LawU CL CR T H x dx D1 D2 l1 S0 rs k)
      ⟨nn, none, rfl, rfl, hnn ▸ U24⟩ (fun _ _ _ _ _ => True.intro) ?_ ?_
    · rintro i y σ Hz H hi ⟨kk, w17, rfl, hk, F⟩ ⟨e, hy⟩
      subst e
      obtain ⟨k, rfl⟩ : ∃ k, kk = k + 1 := ⟨kk - 1, by omega⟩
      obtain rfl : y = .int ((k : Nat) : Int) := hy.trans (congrArg V.int (by rw [e24]; omega))
      refine gname_to ?_
      obtain ⟨fsA, hxA, hnoA⟩ := F.lv.ins
      obtain ⟨q, hq⟩ : ∃ q, rs[k]? = some q := ⟨_, List.getElem?_eq_getElem (by omega)⟩
      have hlk : (rs.take (k + 1)).length = k + 1 := by rw [List.length_take]; omega
      refine ⟨_, rfl, x, dx, _, rfl, hxA, hnoA _ (by decide +kernel) (by decide +kernel) (by decide +kernel) (by decide +kernel) (by decide +kernel), x, dx, _, _, rfl, F.lv, F.tab, (fun z => nomatch z), by rw [hisL_len, hlk]; omega, by rw [unL_len, List.length_reverse, List.length_drop]; omega, fun z => ?_, fun pre s e ne H2 kp2 T2 lv2 => ?_⟩
      · rw [hisL_len, hlk] at z
        omega
      rw [his_at hq] at e
      obtain ⟨ea, eb⟩ := List.append_inj' e rfl
      obtain rfl : s = (q.1, some q.2) := (List.cons.inj eb).1.symm
      subst ea
      rw [← un_at hq] at lv2
      have F2 := F.kp hxA kp2 T2 lv2
      clear F hxA hnoA kp2 T2 lv2 e eb ne
      refine ⟨true, rfl, iteF ?_⟩
      have okk := okP k
      obtain ⟨qk, hqk⟩ := hisL_last S0 (rs.take k)
      refine ⟨_, rfl, x, dx, _, _, lastS S0 (rs.take k), qk, rfl, F2.lv, hqk, okk, fun H3 l3 s3 tl3 => ?_⟩
      have F3 := F2.same s3
      clear F2 s3
      obtain ⟨tts, t1, t2, t3⟩ := id F3.tl
      have t2 : tts.length = rs.length := by rw [t2, List.length_map, pastL_len]
      obtain ⟨tk, htk⟩ : ∃ t, tts[k]? = some t := ⟨_, List.getElem?_eq_getElem (by omega)⟩
      have tlk := t3 k tk _ htk (past_at (by omega))
      refine ⟨_, rfl, _, rfl, D2, _, _, .ref tk, rfl, rfl, SqL.of t1, atI_nat (by rw [List.getElem?_map, htk]; rfl), ?_⟩
      refine ⟨tellD (lastS S0 (rs.take k)), tellD (lastS S0 (rs.take k)), dp_tell tl3, dp_tell tlk, (shp_tell okk).ok (by decide), (shp_tell okk).ok (by decide), _, rfl, ?_⟩
      rw [show (!PyData.eqv (tellD (lastS S0 (rs.take k))) (tellD (lastS S0 (rs.take k)))) = false by rw [(shp_tell okk).same]; rfl]
      refine iteF ?_
      exact ⟨k, _, rfl, by omega, F3⟩
    rintro σ H ⟨kk, w17, rfl, hk, F⟩
    obtain rfl : kk = 0 := by omega
    clear U24 e24 b1 b2 b3 bs24
    -- nothing is left to undo
    obtain ⟨fsA, hxA, hnoA⟩ := F.lv.ins
    refine ⟨_, rfl, x, dx, _, rfl, hxA, hnoA _ (by decide +kernel) (by decide +kernel) (by decide +kernel) (by decide +kernel) (by decide +kernel), x, dx, _, _, rfl, F.lv, F.tab, (fun z => nomatch z), by rw [hisL_len]; show 0 + 1 ≤ 500; decide, by rw [unL_len, List.length_reverse, List.length_drop]; omega, fun _ => ?_, fun pre s e ne => ?_⟩
    rotate_left
    · exfalso
      have := congrArg List.length e
      rw [List.length_append] at this
      have this : 1 = pre.length + 1 := this
      exact ne (List.length_eq_zero_iff.mp (by omega))
    refine ⟨_, rfl, iteF ?_⟩
    refine ⟨_, rfl, x, dx, _, rfl, hxA, x, dx, S0, [], _, rfl, F.lv, by decide, fun H3 l3 s3 n3 tp3 => ⟨by show 0 ≤ sizeLine; decide, fun ze hze => ?_⟩⟩
    have s4 := sameNew hze (.lst [])
    refine ⟨histD [], histD [], dp_hist (fun _ z => nomatch z) (tp3.same s4), .lst (SqL.of upd_same) .nil, rfl, rfl, _, rfl, ?_⟩
    rw [show (!PyData.eqv (histD []) (histD [])) = false from rfl]
    refine iteF ?_
    have F5 := F.same (s3.trans s4)
    generalize upd H3 ze (.lst []) = H5 at F5 ⊢
    clear F hxA hnoA fsA s3 n3 tp3 s4 hze
    -- operations with one that is none
    refine ⟨F5.tab, fun H6 fl e6 T6 hlam => ⟨fl, _, fun E => tMethR CL "apply" (spApply CL CR CNm CMy CU c4 T) E (tVar 4) (tCons (tTup (tCons (tC (.str "join")) (tCons (tC (.str "a")) (tCons (tC (.int 0)) (tCons (tC (.int 1)) tNil))))) (tCons (tTup (tCons (tC (.str "remove")) tNil)) tNil)), rfl, ?_, ?_, ?_, hlam, ?_⟩⟩
    · exact lamS2_by (N := nLaw) (sc := defScope sLaw) (by decide +kernel)
    · exact fun _ _ _ _ _ _ => rfl
    · exact fun A' outer' s' H' E' f' c' hr' => pe_methR (pv 4) LT.cl MAp GAp (hr'.mono (by decide)) (passes_call (takes_of rfl rfl rfl rfl) fun _ _ _ _ h => h) (pa_cons (pe_tup (pa_cons pe_str (pa_cons pe_str (pa_cons pe_int (pa_cons pe_int pa_nil))))) (pa_cons (pe_tup (pa_cons pe_str pa_nil)) pa_nil))
    have F6 := F5.ext e6 T6
    clear F5 e6 T6 hlam
    obtain ⟨fs6, hx6, hno6⟩ := F6.lv.ins
    refine ⟨_, rfl, x, dx, _, rfl, hx6, hno6 _ (by decide +kernel) (by decide +kernel) (by decide +kernel) (by decide +kernel) (by decide +kernel), by show 4 ≤ sizeLine; decide, fun ta hta => ⟨by show 1 ≤ sizeLine; decide, fun tb htb => ?_⟩⟩
    have s7 := sameNew hta (.tup (Op.join "a" 0 1).vs)
    have s8 := sameNew htb (.tup [V.str "remove"])
    refine ⟨[.ref x], [.ref ta, .ref tb], rfl, rfl, by show 2 ≤ sizeLine; decide, fun tc htc => ?_⟩
    have s9 := sameNew htc (.tup [V.ref ta, V.ref tb])
    have s79 := s7.trans (s8.trans s9)
    have ta9 := s9 _ _ (s8 _ _ (upd_same (H := H6) (a := ta) (o := .tup (Op.join "a" 0 1).vs)))
    have tb9 := s9 _ _ (upd_same (H := upd H6 ta (.tup (Op.join "a" 0 1).vs)) (a := tb) (o := .tup [V.str "remove"]))
    have F9 := F6.same s79
    refine ⟨x, dx, tc, _, _, [ta, tb], rfl, upd_same, (by show 2 ≤ 100; decide), F9.lv, 1, fun i b hi hb => ?_, .inl ⟨tb, "remove", 1, [], rfl, tb9, by decide +kernel, by decide, by decide, fun H10 d fs s10 hd hfs => ?_⟩⟩
    · obtain rfl : i = 0 := by omega
      cases hb
      exact ⟨_, _, ta9, by decide +kernel, by decide⟩
    refine ⟨c4, 4, .int 1, rfl, X9.rO, by decide, .inr ⟨d, fs, rfl, hd⟩, .inr ⟨d, fs, rfl, hd, hfs⟩, fun H11 wq s11 hwq => ?_⟩
    have flz : ∀ v ∈ [V.str "operation", V.int 1], FlOk v := fun v hv => by
      rcases List.mem_cons.mp hv with rfl | hv
      · exact .s (by decide +kernel)
      · rw [List.mem_singleton.mp hv]
        exact .i _
    refine ⟨by show 2 ≤ sizeLine; decide, fun td htd => ?_⟩
    have s12 := sameNew htd (.tup [V.str "operation", V.int 1])
    refine ⟨flD [V.str "operation", V.int 1], flD [V.str "operation", V.int 1], dp_fl (s12 _ _ hwq) flz, dp_fl upd_same flz, (shp_fl flz).ok (by decide), (shp_fl flz).ok (by decide), _, rfl, ?_⟩
    rw [show (!PyData.eqv (flD [V.str "operation", V.int 1]) (flD [V.str "operation", V.int 1])) = false by rw [(shp_fl flz).same]; rfl]
    refine iteF ?_
    have F12 := F9.same (s10.trans (s11.trans s12))
    generalize upd H11 td (.tup [V.str "operation", V.int 1]) = H12 at F12 ⊢
    clear F6 hx6 hno6 fs6 s7 s8 s9 s79 ta9 tb9 F9 hta htb htc s10 s11 s12 hd hfs htd hwq flz
    -- all is done again
    obtain ⟨bs12, b1, b2, b3⟩ := id F12.dd
    have e24 : (bs12.map V.ref).length = nn := by rw [List.length_map, b2, List.length_map, hnn]
    refine ⟨_, rfl, D1, _, rfl, .inl (SqL.of b1), ?_⟩
    refine ⟨_, rfl, ?_, ?_, ?_⟩
    · rw [e24]
      omega
    · rw [e24]
      omega
    refine for_it walk_range (fun i σ H => ∃ w17 : Option V, σ = [some (.ref sc), some (.ref r), some (.str u), some (.ref p), some (.ref x), some (.ref h), some (.ref D1), some (.ref D2), w8, w9, w10, w11, w12, some (.ref l1), some (.ref x2), some (.ref wp), some (.ref da), w17] ∧ i ≤ nn ∧ LawU CL CR T H x dx D1 D2 l1 S0 rs i)
      ⟨_, rfl, Nat.zero_le _, F12⟩ (fun _ _ _ _ _ => True.intro) ?_ ?_
    · rintro k y σ Hz H hi ⟨w17, rfl, hk, F⟩ ⟨e, hy⟩
      subst e
      have hi : k < nn := by omega
      obtain rfl : y = .int ((k : Nat) : Int) := hy.trans (congrArg V.int (by omega))
      refine gname_to ?_
      obtain ⟨fsA, hxA, hnoA⟩ := F.lv.ins
      obtain ⟨q, hq⟩ : ∃ q, rs[k]? = some q := ⟨_, List.getElem?_eq_getElem (by omega)⟩
      have hlk : (rs.take k).length = k := by rw [List.length_take]; omega
      have hlk1 : (rs.take (k + 1)).length = k + 1 := by rw [List.length_take]; omega
      refine ⟨_, rfl, x, dx, _, rfl, hxA, hnoA _ (by decide +kernel) (by decide +kernel) (by decide +kernel) (by decide +kernel) (by decide +kernel), x, dx, _, _, rfl, F.lv, F.tab, by rw [hisL_len, hlk]; omega, by rw [unL_len, List.length_reverse, List.length_drop]; omega, fun z => ?_, fun pre s e H2 kp2 T2 lv2 => ?_⟩
      · rw [un_at hq] at z
        have := congrArg List.length z
        rw [List.length_append] at this
        have this : _ + 1 = 0 := this
        omega
      rw [un_at hq] at e
      obtain ⟨ea, eb⟩ := List.append_inj' e rfl
      obtain rfl : s = (q.1, some q.2) := (List.cons.inj eb).1.symm
      subst ea
      rw [← his_at hq] at lv2
      have F2 := F.kp hxA kp2 T2 lv2
      clear F hxA hnoA fsA kp2 T2 lv2 e eb
      refine ⟨true, rfl, iteF ?_⟩
      obtain ⟨fsB, hxB, hnoB⟩ := F2.lv.ins
      refine ⟨_, rfl, x, dx, _, rfl, hxB, x, dx, S0, rs.take (k + 1), _, rfl, F2.lv, by rw [hlk1]; omega, fun H3 l3 s3 n3 tp3 => ?_⟩
      have F3 := F2.same s3
      clear F2 s3 hxB hnoB fsB
      obtain ⟨bs3, c1', c2', c3'⟩ := id F3.dd
      refine ⟨_, rfl, _, rfl, _, _, rfl, rfl, _, rfl, D1, _, rfl, SqL.of c1', fun z hz => ?_⟩
      have ecut : cutV (bs3.map V.ref) none (some ((k : Int) + 1)) = (bs3.map V.ref).take (k + 1) := cut_to (k := k + 1) (by rw [List.length_map, c2', List.length_map]; omega)
      have s4 := sameNew hz (.lst (cutV (bs3.map V.ref) none (some ((k : Int) + 1))))
      have hz4 : upd H3 z (.lst (cutV (bs3.map V.ref) none (some ((k : Int) + 1)))) z = some (.lst ((bs3.map V.ref).take (k + 1))) := by rw [upd_same, ecut]
      have tp4 := F3.dd.take c1' s4 hz4
      rw [← List.map_take, List.map_map] at tp4
      have tp4 : TupsAt (upd H3 z (.lst (cutV (bs3.map V.ref) none (some ((k : Int) + 1))))) z ((rs.take (k + 1)).map fun r => r.2.vs) := tp4
      have fl2 : ∀ o ∈ (rs.take (k + 1)).map (fun r => r.2.vs), ∀ v ∈ o, FlOk v := fun o ho => fl1 o (by rw [List.map_take] at ho; exact List.mem_of_mem_take ho)
      refine ⟨histD _, histD _, dp_hist fl2 (tp3.same s4), dp_hist fl2 tp4, (shp_histD fl2).ok (by decide), (shp_histD fl2).ok (by decide), false, by rw [(shp_histD fl2).same]; rfl, iteF ?_⟩
      exact ⟨_, rfl, by omega, F3.same s4⟩
    rintro σ H ⟨w17, rfl, hk, F⟩
    rw [e24, Int.toNat_natCast, ← hnn] at F
    clear hk F12 e24 b1 b2 b3 bs12
    obtain ⟨fsA, hxA, hnoA⟩ := F.lv.ins
    have ok1 := okP rs.length
    rw [List.take_length] at ok1
    obtain ⟨q2, hq2⟩ := hisL_last S0 rs
    have lvF := F.lv
    rw [List.take_length, List.drop_length] at lvF
    refine ⟨_, rfl, x, dx, _, rfl, hxA, hnoA _ (by decide +kernel) (by decide +kernel) (by decide +kernel) (by decide +kernel) (by decide +kernel), x, dx, _, _, rfl, lvF, F.tab, by rw [hisL_len]; omega, by show 0 ≤ 500; decide, fun _ => ⟨false, rfl, true, rfl, iteT ?_⟩, fun pre s e => ?_⟩
    rotate_left
    · cases pre <;> cases e
    refine ⟨_, rfl, x, dx, _, _, _, q2, rfl, lvF, hq2, ok1, fun H1 l2 s1 tl1 => ?_⟩
    have F1 := F.same s1
    have lv1 := lvF.ext (ExtN.same s1)
    clear F lvF hxA hnoA fsA s1
    refine ⟨_, rfl, tellD (lastS S0 rs), tellD (lastS S0 rs), dp_tell tl1, dp_tell F1.l1, (shp_tell ok1).ok (by decide), (shp_tell ok1).ok (by decide), true, by rw [(shp_tell ok1).same], iteT ?_⟩
    obtain ⟨fsA, hxA, hnoA⟩ := lv1.ins
    refine ⟨_, rfl, x, dx, _, rfl, hxA, hnoA _ (by decide +kernel) (by decide +kernel) (by decide +kernel) (by decide +kernel) (by decide +kernel), [.ref x], [], rfl, rfl, by show 0 ≤ sizeLine; decide, fun tc htc => ?_⟩
    have s2 := sameNew htc (.tup ([] : List V))
    refine ⟨x, dx, tc, _, _, [], rfl, upd_same, by show 0 ≤ 100; decide, lv1.ext (ExtN.same s2), 0, (fun i b hi => by omega), .inr ⟨rfl, _, q2, [], hq2, ok1, rfl, (fun i b o hb => by cases hb), True.intro, F1.tab.ext s2, by rw [hisL_len]; omega, (fun e he => by cases he), fun ls2 rs2 hr2 H3 r3 kp3 T3 lv3 _ rr => ?_⟩⟩
    cases hr2
    obtain ⟨vs3, v1, v2, v3⟩ := rr
    obtain rfl : vs3 = [] := List.length_eq_zero_iff.mp v2
    refine ⟨by show 0 ≤ sizeLine; decide, fun ze hze => ?_⟩
    have s4 := sameNew hze (.lst [])
    exact ⟨.list [], .list [], .lst (SqL.of (s4 _ _ v1)) .nil, .lst (SqL.of upd_same) .nil, rfl, rfl, k _⟩
end
end Sl

set_option Elab.async false
set_option linter.all false
/-! facts of own errors' classes from what k_is answers -/
namespace OwnR
open PySem PySem.Spec L2
section
variable {K : PySem.W.Frag} {C D : Addr} {b : Bool}
theorem kit_tyE {T : String} (h1 : PySem.W.kitMeta T = true) (h : PySem.W.subIn K (.ref C) (.type T) = some b) : PySem.W.kitOne K (.ref C) (.type T) = some b := by
  show (if (Value.ref C == Value.type T) = true then some true else PySem.W.kitCls K (.ref C) (.type T)) = some b
  have e : (Value.ref C == Value.type T) = false := by
    refine Bool.eq_false_iff.mpr fun q => ?_
    have := beq_iff_eq.mp q
    cases this
  rw [e]
  show (if PySem.W.kitMeta T = true then PySem.W.subIn K (.ref C) (.type T) else none) = some b
  rw [if_pos h1, h]
theorem kit_refE (hs : PySem.W.subIn K (.ref C) (.ref C) = some true) (c : PySem.W.isClsIn K D = true) (t : PySem.W.typeIn K (.ref D) = some (.type "type")) (h : PySem.W.subIn K (.ref C) (.ref D) = some b) : PySem.W.kitOne K (.ref C) (.ref D) = some b := by
  show (if (Value.ref C == Value.ref D) = true then some true else PySem.W.kitCls K (.ref C) (.ref D)) = some b
  by_cases q : (Value.ref C == Value.ref D) = true
  · rw [if_pos q]
    have e := Value.ref.inj (beq_iff_eq.mp q)
    subst e
    rw [hs] at h
    exact h
  · rw [if_neg q]
    have c2 : (PySem.W.clsIn K D).isSome = true := c
    have e2 : ((PySem.W.clsIn K D).isSome && PySem.W.typeIn K (.ref D) == some (.type "type")) = true := by rw [c2, t] <;> rfl
    show (if ((PySem.W.clsIn K D).isSome && PySem.W.typeIn K (.ref D) == some (.type "type")) = true then PySem.W.subIn K (.ref C) (.ref D) else none) = some b
    rw [if_pos e2, h]
end
end OwnR

set_option Elab.async false
set_option linter.all false
set_option maxRecDepth 100000
set_option maxHeartbeats 4000000
namespace Sl
open PySem PySem.Spec L2 OwnR LamX
theorem tabS0 {H : Hp} {P : Addr} {q : Str} (h : H P = some (.tbl #[])) : TabS H P q := ⟨#[], h, by first | exact trivial | simp [PySem.W.TriplesOk] | decide, fun pos cv e => by first | cases e | simp [codeAmong] at e⟩
theorem all_mk {l : PySem.W.OpenLaw} {w : World} {K : PySem.W.Frag} {h : Heap} {mg : Str → Option Value} {fa C CR : Addr} (X : K.In h) (G : h.Ns mainGlobals mg) (hfa : mg "law" = some (.ref fa))
    {fin : Addr} {odin anin : Option Addr} {slin : Array (Option Value)} {ocin kVin dcin pmin ctin : Value} {cdin : Value}
    {fnm : Addr} {odnm annm : Option Addr} {slnm : Array (Option Value)} {ocnm kVnm dcnm pmnm ctnm : Value} {cdnm : Value}
    {fic : Addr} {odic anic : Option Addr} {slic : Array (Option Value)} {ocic kVic dcic pmic ctic : Value} {cdic : Value}
    {fcc : Addr} {odcc ancc : Option Addr} {slcc : Array (Option Value)} {occc kVcc dccc pmcc ctcc : Value} {cdcc : Value}
    {fkn : Addr} {odkn ankn : Option Addr} {slkn : Array (Option Value)} {ockn kVkn dckn pmkn ctkn : Value} {cdkn : Value}
    {fcw : Addr} {odcw ancw : Option Addr} {slcw : Array (Option Value)} {occw kVcw dccw pmcw ctcw : Value} {cdcw : Value}
    {ccio Pio : Addr}
    {fio : Addr} {odio anio : Option Addr} {slio : Array (Option Value)} {ocio kVio dcio pmio ctio : Value}
    {ffo : Addr} {odfo anfo : Option Addr} {slfo : Array (Option Value)} {ocfo kVfo dcfo pmfo ctfo : Value} {cdfo : Value}
    {fdv : Addr} {oddv andv : Option Addr} {sldv : Array (Option Value)} {ocdv kVdv dcdv pmdv ctdv : Value} {cddv : Value}
    {fis : Addr} {odis anis : Option Addr} {slis : Array (Option Value)} {ocis kVis dcis pmis ctis : Value} {cdis : Value}
    {fuo : Addr} {oduo anuo : Option Addr} {sluo : Array (Option Value)} {ocuo kVuo dcuo pmuo ctuo : Value} {cduo : Value}
    {fru : Addr} {odru anru : Option Addr} {slru : Array (Option Value)} {ocru kVru dcru pmru ctru : Value} {cdru : Value}
    {fai : Addr} {odai anai : Option Addr} {slai : Array (Option Value)} {ocai kVai dcai pmai ctai : Value} {cdai : Value}
    {fch : Addr} {odch anch : Option Addr} {slch : Array (Option Value)} {occh kVch dcch pmch ctch : Value} {cdch : Value}
    {fjo : Addr} {odjo anjo : Option Addr} {sljo : Array (Option Value)} {ocjo kVjo dcjo pmjo ctjo : Value} {cdjo : Value}
    {fre : Addr} {odre anre : Option Addr} {slre : Array (Option Value)} {ocre kVre dcre pmre ctre : Value} {cdre : Value}
    {fsk : Addr} {odsk ansk : Option Addr} {slsk : Array (Option Value)} {ocsk kVsk dcsk pmsk ctsk : Value} {cdsk : Value}
    {fop : Addr} {odop anop : Option Addr} {slop : Array (Option Value)} {ocop kVop dcop pmop ctop : Value} {cdop : Value}
    {fex : Addr} {odex anex : Option Addr} {slex : Array (Option Value)} {ocex kVex dcex pmex ctex : Value} {cdex : Value}
    {fta : Addr} {odta anta : Option Addr} {slta : Array (Option Value)} {octa kVta dcta pmta ctta : Value} {cdta : Value}
    {fuu : Addr} {oduu anuu : Option Addr} {sluu : Array (Option Value)} {ocuu kVuu dcuu pmuu ctuu : Value} {cduu : Value}
    {fse : Addr} {odse anse : Option Addr} {slse : Array (Option Value)} {ocse kVse dcse pmse ctse : Value} {cdse : Value}
    {ccdr Pdr : Addr}
    {fdr : Addr} {oddr andr : Option Addr} {sldr : Array (Option Value)} {ocdr kVdr dcdr pmdr ctdr : Value}
    {fle : Addr} {odle anle : Option Addr} {slle : Array (Option Value)} {ocle kVle dcle pmle ctle : Value} {cdle : Value}
    {fto : Addr} {odto anto : Option Addr} {slto : Array (Option Value)} {octo kVto dcto pmto ctto : Value} {cdto : Value}
    {fde : Addr} {odde ande : Option Addr} {slde : Array (Option Value)} {ocde kVde dcde pmde ctde : Value} {cdde : Value}
    {fdo : Addr} {oddo ando : Option Addr} {sldo : Array (Option Value)} {ocdo kVdo dcdo pmdo ctdo : Value} {cddo : Value}
    {fas : Addr} {odas anas : Option Addr} {slas : Array (Option Value)} {ocas kVas dcas pmas ctas : Value} {cdas : Value}
    {ftl : Addr} {odtl antl : Option Addr} {sltl : Array (Option Value)} {octl kVtl dctl pmtl cttl : Value} {cdtl : Value}
    {ccla Pla : Addr}
    {fla : Addr} {odla anla : Option Addr} {slla : Array (Option Value)} {ocla kVla dcla pmla ctla : Value}
    {fDi : Addr} {odDi anDi : Option Addr} {slDi : Array (Option Value)} {ocDi kVDi dcDi pmDi ctDi : Value} {cdDi : Value}
    {fDc : Addr} {odDc anDc : Option Addr} {slDc : Array (Option Value)} {ocDc kVDc dcDc pmDc ctDc : Value} {cdDc : Value}
    {fDp : Addr} {odDp anDp : Option Addr} {slDp : Array (Option Value)} {ocDp kVDp dcDp pmDp ctDp : Value} {cdDp : Value}
    {fDg : Addr} {odDg anDg : Option Addr} {slDg : Array (Option Value)} {ocDg kVDg dcDg pmDg ctDg : Value} {cdDg : Value}
    {Td : Addr} {odT : Option Addr} {ocT : Value} {slT : Array (Option Value)} {nT : Nat}
    {fDa : Addr} {odDa anDa : Option Addr} {slDa : Array (Option Value)} {ocDa kVDa dcDa pmDa ctDa : Value} {cdDa : Value}
    {fDh : Addr} {odDh anDh : Option Addr} {slDh : Array (Option Value)} {ocDh kVDh dcDh pmDh ctDh : Value} {cdDh : Value}
    {fRi : Addr} {odRi anRi : Option Addr} {slRi : Array (Option Value)} {ocRi kVRi dcRi pmRi ctRi : Value} {cdRi : Value}
    {fLi : Addr} {odLi anLi : Option Addr} {slLi : Array (Option Value)} {ocLi kVLi dcLi pmLi ctLi : Value} {cdLi : Value}
    {fLj : Addr} {odLj anLj : Option Addr} {slLj : Array (Option Value)} {ocLj kVLj dcLj pmLj ctLj : Value} {cdLj : Value}
    {fLr : Addr} {odLr anLr : Option Addr} {slLr : Array (Option Value)} {ocLr kVLr dcLr pmLr ctLr : Value} {cdLr : Value}
    {fLk : Addr} {odLk anLk : Option Addr} {slLk : Array (Option Value)} {ocLk kVLk dcLk pmLk ctLk : Value} {cdLk : Value}
    {fLp : Addr} {odLp anLp : Option Addr} {slLp : Array (Option Value)} {ocLp kVLp dcLp pmLp ctLp : Value} {cdLp : Value}
    {fLb : Addr} {odLb anLb : Option Addr} {slLb : Array (Option Value)} {ocLb kVLb dcLb pmLb ctLb : Value} {cdLb : Value}
    {fLa : Addr} {odLa anLa : Option Addr} {slLa : Array (Option Value)} {ocLa kVLa dcLa pmLa ctLa : Value} {cdLa : Value}
    {fLu : Addr} {odLu anLu : Option Addr} {slLu : Array (Option Value)} {ocLu kVLu dcLu pmLu ctLu : Value} {cdLu : Value}
    {fLy : Addr} {odLy anLy : Option Addr} {slLy : Array (Option Value)} {ocLy kVLy dcLy pmLy ctLy : Value} {cdLy : Value}
    {fLd : Addr} {odLd anLd : Option Addr} {slLd : Array (Option Value)} {ocLd kVLd dcLd pmLd ctLd : Value} {cdLd : Value}
    {fLx : Addr} {odLx anLx : Option Addr} {slLx : Array (Option Value)} {ocLx kVLx dcLx pmLx ctLx : Value} {cdLx : Value}
    {fLn : Addr} {odLn anLn : Option Addr} {slLn : Array (Option Value)} {ocLn kVLn dcLn pmLn ctLn : Value} {cdLn : Value}
    {CL : Addr}
    {pLo : Addr} {rLoL : List Value}
    {fLo : Addr} {odLo anLo : Option Addr} {slLo : Array (Option Value)} {ocLo kVLo dcLo pmLo ctLo : Value} {cdLo : Value}
    {pLc : Addr} {rLcL : List Value}
    {fLc : Addr} {odLc anLc : Option Addr} {slLc : Array (Option Value)} {ocLc kVLc dcLc pmLc ctLc : Value} {cdLc : Value}
    {pLh : Addr} {rLhL : List Value}
    {fLh : Addr} {odLh anLh : Option Addr} {slLh : Array (Option Value)} {ocLh kVLh dcLh pmLh ctLh : Value} {cdLh : Value}
    {pO : Addr} {mc : Value} {rO : List Value}
    {fRo : Addr} {odRo anRo : Option Addr} {slRo : Array (Option Value)} {ocRo kVRo dcRo pmRo ctRo : Value} {cdRo : Value}
    {pLz : Addr} {rLzL : List Value}
    {fLz : Addr} {odLz anLz : Option Addr} {slLz : Array (Option Value)} {ocLz kVLz dcLz pmLz ctLz : Value} {cdLz : Value}
    {pRs : Addr} {rRsL : List Value}
    {fRs : Addr} {odRs anRs : Option Addr} {slRs : Array (Option Value)} {ocRs kVRs dcRs pmRs ctRs : Value} {cdRs : Value}
    {CE c0 c1 c2 c3 c4 c5 ap gp : Addr} {nmU qU : Str} {NU : Addr} {bsU : List Value} {snU : List Str} {subU : List Value} {abU : Bool} {colU : Option Bool} {ddU : Option Addr} {u0U u1U u2U u3U u5U : Option Value} {fUi : Addr} {odUi anUi : Option Addr} {slUi : Array (Option Value)} {ocUi kVUi dcUi pmUi cdUi ctUi : Value} {nmO qO : Str} {NO : Addr} {bsO : List Value} {snO : List Str} {subO : List Value} {abO : Bool} {colO : Option Bool} {ddO : Option Addr} {u0O u1O u2O u3O u5O : Option Value} {fOi : Addr} {odOi anOi : Option Addr} {slOi : Array (Option Value)} {ocOi kVOi dcOi pmOi cdOi ctOi : Value}
    {t0 t1 t2 t3 t4 t5 : Tok} {lp kp : Addr}
    (aC : PySem.W.nsIn K mainGlobals "Drive" = some (some (.ref C)))
    (aR : PySem.W.nsIn K mainGlobals "Road" = some (some (.ref CR)))
    (aX3 : PySem.W.nsIn K mainGlobals "LiveRoad" = some (some (.ref CL)))
    (ain : PySem.W.nsIn K mainGlobals "is_number" = some (some (.ref fin)))
    (lin : K.lookup fin = some ⟨ocin, odin, .func (PySem.W.fnOf "is_number" "is_number" (defArgs sIsNumber) (defBody sIsNumber) (defScope sIsNumber) .none kVin dcin pmin anin cdin ctin), slin⟩)
    (cin : PySem.W.codeIn K cdin "is_number" = true)
    (kin : PySem.W.keepIn K (.ref fin) = true)
    (anm : PySem.W.nsIn K mainGlobals "is_name" = some (some (.ref fnm)))
    (lnm : K.lookup fnm = some ⟨ocnm, odnm, .func (PySem.W.fnOf "is_name" "is_name" (defArgs sIsName) (defBody sIsName) (defScope sIsName) .none kVnm dcnm pmnm annm cdnm ctnm), slnm⟩)
    (cnm : PySem.W.codeIn K cdnm "is_name" = true)
    (knm : PySem.W.keepIn K (.ref fnm) = true)
    (aic : PySem.W.nsIn K mainGlobals "is_car" = some (some (.ref fic)))
    (lic : K.lookup fic = some ⟨ocic, odic, .func (PySem.W.fnOf "is_car" "is_car" (defArgs sIsCar) (defBody sIsCar) (defScope sIsCar) .none kVic dcic pmic anic cdic ctic), slic⟩)
    (cic : PySem.W.codeIn K cdic "is_car" = true)
    (kic : PySem.W.keepIn K (.ref fic) = true)
    (acc : PySem.W.nsIn K mainGlobals "check_cars" = some (some (.ref fcc)))
    (lcc : K.lookup fcc = some ⟨occc, odcc, .func (PySem.W.fnOf "check_cars" "check_cars" (defArgs sCheckCars) (defBody sCheckCars) (defScope sCheckCars) .none kVcc dccc pmcc ancc cdcc ctcc), slcc⟩)
    (ccc : PySem.W.codeIn K cdcc "check_cars" = true)
    (kcc : PySem.W.keepIn K (.ref fcc) = true)
    (akn : PySem.W.nsIn K mainGlobals "check_known" = some (some (.ref fkn)))
    (lkn : K.lookup fkn = some ⟨ockn, odkn, .func (PySem.W.fnOf "check_known" "check_known" (defArgs sCheckKnown) (defBody sCheckKnown) (defScope sCheckKnown) .none kVkn dckn pmkn ankn cdkn ctkn), slkn⟩)
    (ckn : PySem.W.codeIn K cdkn "check_known" = true)
    (kkn : PySem.W.keepIn K (.ref fkn) = true)
    (acw : PySem.W.nsIn K mainGlobals "check_new_name" = some (some (.ref fcw)))
    (lcw : K.lookup fcw = some ⟨occw, odcw, .func (PySem.W.fnOf "check_new_name" "check_new_name" (defArgs sCheckNewName) (defBody sCheckNewName) (defScope sCheckNewName) .none kVcw dccw pmcw ancw cdcw ctcw), slcw⟩)
    (ccw : PySem.W.codeIn K cdcw "check_new_name" = true)
    (kcw : PySem.W.keepIn K (.ref fcw) = true)
    (aio : PySem.W.nsIn K mainGlobals "_in_order" = some (some (.ref fio)))
    (lio : K.lookup fio = some ⟨ocio, odio, .func (PySem.W.fnOf "_in_order" "_in_order" (defArgs sInOrder) (defBody sInOrder) (defScope sInOrder) .none kVio dcio pmio anio (.ref ccio) ctio), slio⟩)
    (cio : PySem.W.codeIn K (.ref ccio) "_in_order" = true)
    (kio : PySem.W.keepIn K (.ref fio) = true)
    (hio : PySem.W.codeHdIn K ccio Pio = true)
    (nio : K.lookup Pio = none)
    (afo : PySem.W.nsIn K mainGlobals "_follow" = some (some (.ref ffo)))
    (lfo : K.lookup ffo = some ⟨ocfo, odfo, .func (PySem.W.fnOf "_follow" "_follow" (defArgs sFollow) (defBody sFollow) (defScope sFollow) .none kVfo dcfo pmfo anfo cdfo ctfo), slfo⟩)
    (cfo : PySem.W.codeIn K cdfo "_follow" = true)
    (kfo : PySem.W.keepIn K (.ref ffo) = true)
    (adv : PySem.W.nsIn K mainGlobals "drive_all" = some (some (.ref fdv)))
    (ldv : K.lookup fdv = some ⟨ocdv, oddv, .func (PySem.W.fnOf "drive_all" "drive_all" (defArgs sDriveAll) (defBody sDriveAll) (defScope sDriveAll) .none kVdv dcdv pmdv andv cddv ctdv), sldv⟩)
    (cdv : PySem.W.codeIn K cddv "drive_all" = true)
    (kdv : PySem.W.keepIn K (.ref fdv) = true)
    (ais : PySem.W.nsIn K mainGlobals "_is_section" = some (some (.ref fis)))
    (lis : K.lookup fis = some ⟨ocis, odis, .func (PySem.W.fnOf "_is_section" "_is_section" (defArgs sIsSection) (defBody sIsSection) (defScope sIsSection) .none kVis dcis pmis anis cdis ctis), slis⟩)
    (cis : PySem.W.codeIn K cdis "_is_section" = true)
    (kis : PySem.W.keepIn K (.ref fis) = true)
    (auo : PySem.W.nsIn K mainGlobals "_units_of" = some (some (.ref fuo)))
    (luo : K.lookup fuo = some ⟨ocuo, oduo, .func (PySem.W.fnOf "_units_of" "_units_of" (defArgs sUnitsOf) (defBody sUnitsOf) (defScope sUnitsOf) .none kVuo dcuo pmuo anuo cduo ctuo), sluo⟩)
    (cuo : PySem.W.codeIn K cduo "_units_of" = true)
    (kuo : PySem.W.keepIn K (.ref fuo) = true)
    (aru : PySem.W.nsIn K mainGlobals "_runs" = some (some (.ref fru)))
    (lru : K.lookup fru = some ⟨ocru, odru, .func (PySem.W.fnOf "_runs" "_runs" (defArgs sRuns) (defBody sRuns) (defScope sRuns) .none kVru dcru pmru anru cdru ctru), slru⟩)
    (cru : PySem.W.codeIn K cdru "_runs" = true)
    (kru : PySem.W.keepIn K (.ref fru) = true)
    (aai : PySem.W.nsIn K mainGlobals "_arrivals" = some (some (.ref fai)))
    (lai : K.lookup fai = some ⟨ocai, odai, .func (PySem.W.fnOf "_arrivals" "_arrivals" (defArgs sArrivals) (defBody sArrivals) (defScope sArrivals) .none kVai dcai pmai anai cdai ctai), slai⟩)
    (cai : PySem.W.codeIn K cdai "_arrivals" = true)
    (kai : PySem.W.keepIn K (.ref fai) = true)
    (ach : PySem.W.nsIn K mainGlobals "_changes" = some (some (.ref fch)))
    (lch : K.lookup fch = some ⟨occh, odch, .func (PySem.W.fnOf "_changes" "_changes" (defArgs sChanges) (defBody sChanges) (defScope sChanges) .none kVch dcch pmch anch cdch ctch), slch⟩)
    (cch : PySem.W.codeIn K cdch "_changes" = true)
    (kch : PySem.W.keepIn K (.ref fch) = true)
    (ajo : PySem.W.nsIn K mainGlobals "_join" = some (some (.ref fjo)))
    (ljo : K.lookup fjo = some ⟨ocjo, odjo, .func (PySem.W.fnOf "_join" "_join" (defArgs sJoin) (defBody sJoin) (defScope sJoin) .none kVjo dcjo pmjo anjo cdjo ctjo), sljo⟩)
    (cjo : PySem.W.codeIn K cdjo "_join" = true)
    (kjo : PySem.W.keepIn K (.ref fjo) = true)
    (are : PySem.W.nsIn K mainGlobals "_remove" = some (some (.ref fre)))
    (lre : K.lookup fre = some ⟨ocre, odre, .func (PySem.W.fnOf "_remove" "_remove" (defArgs sRemove) (defBody sRemove) (defScope sRemove) .none kVre dcre pmre anre cdre ctre), slre⟩)
    (cre : PySem.W.codeIn K cdre "_remove" = true)
    (kre : PySem.W.keepIn K (.ref fre) = true)
    (ask : PySem.W.nsIn K mainGlobals "_set_kind" = some (some (.ref fsk)))
    (lsk : K.lookup fsk = some ⟨ocsk, odsk, .func (PySem.W.fnOf "_set_kind" "_set_kind" (defArgs sSetKind) (defBody sSetKind) (defScope sSetKind) .none kVsk dcsk pmsk ansk cdsk ctsk), slsk⟩)
    (csk : PySem.W.codeIn K cdsk "_set_kind" = true)
    (ksk : PySem.W.keepIn K (.ref fsk) = true)
    (aop : PySem.W.nsIn K mainGlobals "_is_operation" = some (some (.ref fop)))
    (lop : K.lookup fop = some ⟨ocop, odop, .func (PySem.W.fnOf "_is_operation" "_is_operation" (defArgs sIsOperation) (defBody sIsOperation) (defScope sIsOperation) .none kVop dcop pmop anop cdop ctop), slop⟩)
    (cop : PySem.W.codeIn K cdop "_is_operation" = true)
    (kop : PySem.W.keepIn K (.ref fop) = true)
    (aex : PySem.W.nsIn K mainGlobals "_execute" = some (some (.ref fex)))
    (lex : K.lookup fex = some ⟨ocex, odex, .func (PySem.W.fnOf "_execute" "_execute" (defArgs sExecute) (defBody sExecute) (defScope sExecute) .none kVex dcex pmex anex cdex ctex), slex⟩)
    (cex : PySem.W.codeIn K cdex "_execute" = true)
    (kex : PySem.W.keepIn K (.ref fex) = true)
    (ata : PySem.W.nsIn K mainGlobals "_law_taken" = some (some (.ref fta)))
    (lta : K.lookup fta = some ⟨octa, odta, .func (PySem.W.fnOf "_law_taken" "_law_taken" (defArgs sTaken) (defBody sTaken) (defScope sTaken) .none kVta dcta pmta anta cdta ctta), slta⟩)
    (cta : PySem.W.codeIn K cdta "_law_taken" = true)
    (kta : PySem.W.keepIn K (.ref fta) = true)
    (auu : PySem.W.nsIn K mainGlobals "_law_units" = some (some (.ref fuu)))
    (luu : K.lookup fuu = some ⟨ocuu, oduu, .func (PySem.W.fnOf "_law_units" "_law_units" (defArgs sUnits) (defBody sUnits) (defScope sUnits) .none kVuu dcuu pmuu anuu cduu ctuu), sluu⟩)
    (cuu : PySem.W.codeIn K cduu "_law_units" = true)
    (kuu : PySem.W.keepIn K (.ref fuu) = true)
    (ase : PySem.W.nsIn K mainGlobals "_law_sections" = some (some (.ref fse)))
    (lse : K.lookup fse = some ⟨ocse, odse, .func (PySem.W.fnOf "_law_sections" "_law_sections" (defArgs sSections) (defBody sSections) (defScope sSections) .none kVse dcse pmse anse cdse ctse), slse⟩)
    (cse : PySem.W.codeIn K cdse "_law_sections" = true)
    (kse : PySem.W.keepIn K (.ref fse) = true)
    (adr : PySem.W.nsIn K mainGlobals "_law_driven" = some (some (.ref fdr)))
    (ldr : K.lookup fdr = some ⟨ocdr, oddr, .func (PySem.W.fnOf "_law_driven" "_law_driven" (defArgs sDriven) (defBody sDriven) (defScope sDriven) .none kVdr dcdr pmdr andr (.ref ccdr) ctdr), sldr⟩)
    (cdr : PySem.W.codeIn K (.ref ccdr) "_law_driven" = true)
    (kdr : PySem.W.keepIn K (.ref fdr) = true)
    (hdr : PySem.W.codeHdIn K ccdr Pdr = true)
    (ndr : K.lookup Pdr = none)
    (ale : PySem.W.nsIn K mainGlobals "_law_less" = some (some (.ref fle)))
    (lle : K.lookup fle = some ⟨ocle, odle, .func (PySem.W.fnOf "_law_less" "_law_less" (defArgs sLess) (defBody sLess) (defScope sLess) .none kVle dcle pmle anle cdle ctle), slle⟩)
    (cle : PySem.W.codeIn K cdle "_law_less" = true)
    (kle : PySem.W.keepIn K (.ref fle) = true)
    (ato : PySem.W.nsIn K mainGlobals "_law_raised" = some (some (.ref fto)))
    (lto : K.lookup fto = some ⟨octo, odto, .func (PySem.W.fnOf "_law_raised" "_law_raised" (defArgs sRaised) (defBody sRaised) (defScope sRaised) .none kVto dcto pmto anto cdto ctto), slto⟩)
    (cto : PySem.W.codeIn K cdto "_law_raised" = true)
    (kto : PySem.W.keepIn K (.ref fto) = true)
    (ade : PySem.W.nsIn K mainGlobals "_law_deed" = some (some (.ref fde)))
    (lde : K.lookup fde = some ⟨ocde, odde, .func (PySem.W.fnOf "_law_deed" "_law_deed" (defArgs sDeed) (defBody sDeed) (defScope sDeed) .none kVde dcde pmde ande cdde ctde), slde⟩)
    (cde : PySem.W.codeIn K cdde "_law_deed" = true)
    (kde : PySem.W.keepIn K (.ref fde) = true)
    (ado : PySem.W.nsIn K mainGlobals "_law_does" = some (some (.ref fdo)))
    (ldo : K.lookup fdo = some ⟨ocdo, oddo, .func (PySem.W.fnOf "_law_does" "_law_does" (defArgs sDoes) (defBody sDoes) (defScope sDoes) .none kVdo dcdo pmdo ando cddo ctdo), sldo⟩)
    (cdo : PySem.W.codeIn K cddo "_law_does" = true)
    (kdo : PySem.W.keepIn K (.ref fdo) = true)
    (aas : PySem.W.nsIn K mainGlobals "_law_asked" = some (some (.ref fas)))
    (las : K.lookup fas = some ⟨ocas, odas, .func (PySem.W.fnOf "_law_asked" "_law_asked" (defArgs sAsked) (defBody sAsked) (defScope sAsked) .none kVas dcas pmas anas cdas ctas), slas⟩)
    (cas : PySem.W.codeIn K cdas "_law_asked" = true)
    (kas : PySem.W.keepIn K (.ref fas) = true)
    (atl : PySem.W.nsIn K mainGlobals "_law_told" = some (some (.ref ftl)))
    (ltl : K.lookup ftl = some ⟨octl, odtl, .func (PySem.W.fnOf "_law_told" "_law_told" (defArgs sTold) (defBody sTold) (defScope sTold) .none kVtl dctl pmtl antl cdtl cttl), sltl⟩)
    (ctl : PySem.W.codeIn K cdtl "_law_told" = true)
    (ktl : PySem.W.keepIn K (.ref ftl) = true)
    (ala : PySem.W.nsIn K mainGlobals "law" = some (some (.ref fla)))
    (lla : K.lookup fla = some ⟨ocla, odla, .func (PySem.W.fnOf "law" "law" (defArgs sLaw) (defBody sLaw) (defScope sLaw) .none kVla dcla pmla anla (.ref ccla) ctla), slla⟩)
    (cla : PySem.W.codeIn K (.ref ccla) "law" = true)
    (kla : PySem.W.keepIn K (.ref fla) = true)
    (hla : PySem.W.codeHdIn K ccla Pla = true)
    (nla : K.lookup Pla = none)
    (aDi : PySem.W.findIn K (.ref C) "__init__" = some (some (.ref fDi)))
    (iDi : PySem.W.isFn K (.ref fDi) = true)
    (lDi : K.lookup fDi = some ⟨ocDi, odDi, .func (PySem.W.fnOf "__init__" "Drive.__init__" (defArgs sDInit) (defBody sDInit) (defScope sDInit) .none kVDi dcDi pmDi anDi cdDi ctDi), slDi⟩)
    (cDi : PySem.W.codeIn K cdDi "Drive.__init__" = true)
    (kDi : PySem.W.keepIn K (.ref fDi) = true)
    (aDc : PySem.W.findIn K (.ref C) "_check_car" = some (some (.ref fDc)))
    (iDc : PySem.W.isFn K (.ref fDc) = true)
    (lDc : K.lookup fDc = some ⟨ocDc, odDc, .func (PySem.W.fnOf "_check_car" "Drive._check_car" (defArgs sDCheckCar) (defBody sDCheckCar) (defScope sDCheckCar) .none kVDc dcDc pmDc anDc cdDc ctDc), slDc⟩)
    (cDc : PySem.W.codeIn K cdDc "Drive._check_car" = true)
    (kDc : PySem.W.keepIn K (.ref fDc) = true)
    (aDp : PySem.W.findIn K (.ref C) "_check_place" = some (some (.ref fDp)))
    (iDp : PySem.W.isFn K (.ref fDp) = true)
    (lDp : K.lookup fDp = some ⟨ocDp, odDp, .func (PySem.W.fnOf "_check_place" "Drive._check_place" (defArgs sDCheckPlace) (defBody sDCheckPlace) (defScope sDCheckPlace) .none kVDp dcDp pmDp anDp cdDp ctDp), slDp⟩)
    (cDp : PySem.W.codeIn K cdDp "Drive._check_place" = true)
    (kDp : PySem.W.keepIn K (.ref fDp) = true)
    (aDg : PySem.W.findIn K (.ref C) "__getitem__" = some (some (.ref fDg)))
    (iDg : PySem.W.isFn K (.ref fDg) = true)
    (lDg : K.lookup fDg = some ⟨ocDg, odDg, .func (PySem.W.fnOf "__getitem__" "Drive.__getitem__" (defArgs sDGet) (defBody sDGet) (defScope sDGet) .none kVDg dcDg pmDg anDg cdDg ctDg), slDg⟩)
    (cDg : PySem.W.codeIn K cdDg "Drive.__getitem__" = true)
    (kDg : PySem.W.keepIn K (.ref fDg) = true)
    (aDa : PySem.W.findIn K (.ref C) "__call__" = some (some (.ref fDa)))
    (iDa : PySem.W.isFn K (.ref fDa) = true)
    (lDa : K.lookup fDa = some ⟨ocDa, odDa, .func (PySem.W.fnOf "__call__" "Drive.__call__" (defArgs sDCall) (defBody sDCall) (defScope sDCall) (.ref Td) kVDa dcDa pmDa anDa cdDa ctDa), slDa⟩)
    (cDa : PySem.W.codeIn K cdDa "Drive.__call__" = true)
    (kDa : PySem.W.keepIn K (.ref fDa) = true)
    (lT : K.lookup Td = some ⟨ocT, odT, .seq #[Value.none] nT, slT⟩)
    (aDh : PySem.W.findIn K (.ref C) "__contains__" = some (some (.ref fDh)))
    (iDh : PySem.W.isFn K (.ref fDh) = true)
    (lDh : K.lookup fDh = some ⟨ocDh, odDh, .func (PySem.W.fnOf "__contains__" "Drive.__contains__" (defArgs sDHas) (defBody sDHas) (defScope sDHas) .none kVDh dcDh pmDh anDh cdDh ctDh), slDh⟩)
    (cDh : PySem.W.codeIn K cdDh "Drive.__contains__" = true)
    (kDh : PySem.W.keepIn K (.ref fDh) = true)
    (aRi : PySem.W.findIn K (.ref CR) "__init__" = some (some (.ref fRi)))
    (iRi : PySem.W.isFn K (.ref fRi) = true)
    (lRi : K.lookup fRi = some ⟨ocRi, odRi, .func (PySem.W.fnOf "__init__" "Road.__init__" (defArgs sRInit) (defBody sRInit) (defScope sRInit) .none kVRi dcRi pmRi anRi cdRi ctRi), slRi⟩)
    (cRi : PySem.W.codeIn K cdRi "Road.__init__" = true)
    (kRi : PySem.W.keepIn K (.ref fRi) = true)
    (aLi : PySem.W.findIn K (.ref CL) "__init__" = some (some (.ref fLi)))
    (iLi : PySem.W.isFn K (.ref fLi) = true)
    (lLi : K.lookup fLi = some ⟨ocLi, odLi, .func (PySem.W.fnOf "__init__" "LiveRoad.__init__" (defArgs sLiveRoadInit) (defBody sLiveRoadInit) (defScope sLiveRoadInit) .none kVLi dcLi pmLi anLi cdLi ctLi), slLi⟩)
    (cLi : PySem.W.codeIn K cdLi "LiveRoad.__init__" = true)
    (kLi : PySem.W.keepIn K (.ref fLi) = true)
    (aLj : PySem.W.findIn K (.ref CL) "join" = some (some (.ref fLj)))
    (iLj : PySem.W.isFn K (.ref fLj) = true)
    (lLj : K.lookup fLj = some ⟨ocLj, odLj, .func (PySem.W.fnOf "join" "LiveRoad.join" (defArgs sLiveRoadJoin) (defBody sLiveRoadJoin) (defScope sLiveRoadJoin) .none kVLj dcLj pmLj anLj cdLj ctLj), slLj⟩)
    (cLj : PySem.W.codeIn K cdLj "LiveRoad.join" = true)
    (kLj : PySem.W.keepIn K (.ref fLj) = true)
    (aLr : PySem.W.findIn K (.ref CL) "remove" = some (some (.ref fLr)))
    (iLr : PySem.W.isFn K (.ref fLr) = true)
    (lLr : K.lookup fLr = some ⟨ocLr, odLr, .func (PySem.W.fnOf "remove" "LiveRoad.remove" (defArgs sLiveRoadRemove) (defBody sLiveRoadRemove) (defScope sLiveRoadRemove) .none kVLr dcLr pmLr anLr cdLr ctLr), slLr⟩)
    (cLr : PySem.W.codeIn K cdLr "LiveRoad.remove" = true)
    (kLr : PySem.W.keepIn K (.ref fLr) = true)
    (aLk : PySem.W.findIn K (.ref CL) "set_kind" = some (some (.ref fLk)))
    (iLk : PySem.W.isFn K (.ref fLk) = true)
    (lLk : K.lookup fLk = some ⟨ocLk, odLk, .func (PySem.W.fnOf "set_kind" "LiveRoad.set_kind" (defArgs sLiveRoadSetKind) (defBody sLiveRoadSetKind) (defScope sLiveRoadSetKind) .none kVLk dcLk pmLk anLk cdLk ctLk), slLk⟩)
    (cLk : PySem.W.codeIn K cdLk "LiveRoad.set_kind" = true)
    (kLk : PySem.W.keepIn K (.ref fLk) = true)
    (aLp : PySem.W.findIn K (.ref CL) "apply" = some (some (.ref fLp)))
    (iLp : PySem.W.isFn K (.ref fLp) = true)
    (lLp : K.lookup fLp = some ⟨ocLp, odLp, .func (PySem.W.fnOf "apply" "LiveRoad.apply" (defArgs sLiveRoadApply) (defBody sLiveRoadApply) (defScope sLiveRoadApply) .none kVLp dcLp pmLp anLp cdLp ctLp), slLp⟩)
    (cLp : PySem.W.codeIn K cdLp "LiveRoad.apply" = true)
    (kLp : PySem.W.keepIn K (.ref fLp) = true)
    (aLb : PySem.W.findIn K (.ref CL) "_check_no_block" = some (some (.ref fLb)))
    (iLb : PySem.W.isFn K (.ref fLb) = true)
    (lLb : K.lookup fLb = some ⟨ocLb, odLb, .func (PySem.W.fnOf "_check_no_block" "LiveRoad._check_no_block" (defArgs sLiveRoadCheckNoBlock) (defBody sLiveRoadCheckNoBlock) (defScope sLiveRoadCheckNoBlock) .none kVLb dcLb pmLb anLb cdLb ctLb), slLb⟩)
    (cLb : PySem.W.codeIn K cdLb "LiveRoad._check_no_block" = true)
    (kLb : PySem.W.keepIn K (.ref fLb) = true)
    (aLa : PySem.W.findIn K (.ref CL) "arrivals_after" = some (some (.ref fLa)))
    (iLa : PySem.W.isFn K (.ref fLa) = true)
    (lLa : K.lookup fLa = some ⟨ocLa, odLa, .func (PySem.W.fnOf "arrivals_after" "LiveRoad.arrivals_after" (defArgs sLiveRoadArrivalsAfter) (defBody sLiveRoadArrivalsAfter) (defScope sLiveRoadArrivalsAfter) .none kVLa dcLa pmLa anLa cdLa ctLa), slLa⟩)
    (cLa : PySem.W.codeIn K cdLa "LiveRoad.arrivals_after" = true)
    (kLa : PySem.W.keepIn K (.ref fLa) = true)
    (aLu : PySem.W.findIn K (.ref CL) "undo" = some (some (.ref fLu)))
    (iLu : PySem.W.isFn K (.ref fLu) = true)
    (lLu : K.lookup fLu = some ⟨ocLu, odLu, .func (PySem.W.fnOf "undo" "LiveRoad.undo" (defArgs sLiveRoadUndo) (defBody sLiveRoadUndo) (defScope sLiveRoadUndo) .none kVLu dcLu pmLu anLu cdLu ctLu), slLu⟩)
    (cLu : PySem.W.codeIn K cdLu "LiveRoad.undo" = true)
    (kLu : PySem.W.keepIn K (.ref fLu) = true)
    (aLy : PySem.W.findIn K (.ref CL) "redo" = some (some (.ref fLy)))
    (iLy : PySem.W.isFn K (.ref fLy) = true)
    (lLy : K.lookup fLy = some ⟨ocLy, odLy, .func (PySem.W.fnOf "redo" "LiveRoad.redo" (defArgs sLiveRoadRedo) (defBody sLiveRoadRedo) (defScope sLiveRoadRedo) .none kVLy dcLy pmLy anLy cdLy ctLy), slLy⟩)
    (cLy : PySem.W.codeIn K cdLy "LiveRoad.redo" = true)
    (kLy : PySem.W.keepIn K (.ref fLy) = true)
    (aLd : PySem.W.findIn K (.ref CL) "drive" = some (some (.ref fLd)))
    (iLd : PySem.W.isFn K (.ref fLd) = true)
    (lLd : K.lookup fLd = some ⟨ocLd, odLd, .func (PySem.W.fnOf "drive" "LiveRoad.drive" (defArgs sLiveRoadDrive) (defBody sLiveRoadDrive) (defScope sLiveRoadDrive) .none kVLd dcLd pmLd anLd cdLd ctLd), slLd⟩)
    (cLd : PySem.W.codeIn K cdLd "LiveRoad.drive" = true)
    (kLd : PySem.W.keepIn K (.ref fLd) = true)
    (aLx : PySem.W.findIn K (.ref CL) "__contains__" = some (some (.ref fLx)))
    (iLx : PySem.W.isFn K (.ref fLx) = true)
    (lLx : K.lookup fLx = some ⟨ocLx, odLx, .func (PySem.W.fnOf "__contains__" "LiveRoad.__contains__" (defArgs sLiveRoadContains) (defBody sLiveRoadContains) (defScope sLiveRoadContains) .none kVLx dcLx pmLx anLx cdLx ctLx), slLx⟩)
    (cLx : PySem.W.codeIn K cdLx "LiveRoad.__contains__" = true)
    (kLx : PySem.W.keepIn K (.ref fLx) = true)
    (aLn : PySem.W.findIn K (.ref CL) "__len__" = some (some (.ref fLn)))
    (iLn : PySem.W.isFn K (.ref fLn) = true)
    (lLn : K.lookup fLn = some ⟨ocLn, odLn, .func (PySem.W.fnOf "__len__" "LiveRoad.__len__" (defArgs sLiveRoadLen) (defBody sLiveRoadLen) (defScope sLiveRoadLen) .none kVLn dcLn pmLn anLn cdLn ctLn), slLn⟩)
    (cLn : PySem.W.codeIn K cdLn "LiveRoad.__len__" = true)
    (kLn : PySem.W.keepIn K (.ref fLn) = true)
    (aLo : PySem.W.findIn K (.ref CL) "present_road" = some (some (.ref pLo)))
    (gLo : PySem.W.specialIn K (.ref pLo) "__get__" = some (some (.builtin "property.__get__")))
    (tLo : PySem.W.takesIn K (.ref pLo) = some true)
    (rLo : PySem.W.recIn K pLo "property" = some (.ref fLo :: rLoL))
    (lLo : K.lookup fLo = some ⟨ocLo, odLo, .func (PySem.W.fnOf "present_road" "LiveRoad.present_road" (defArgs sLiveRoadPresentRoad) (defBody sLiveRoadPresentRoad) (defScope sLiveRoadPresentRoad) .none kVLo dcLo pmLo anLo cdLo ctLo), slLo⟩)
    (cLo : PySem.W.codeIn K cdLo "LiveRoad.present_road" = true)
    (kLo : PySem.W.keepIn K (.ref fLo) = true)
    (aLc : PySem.W.findIn K (.ref CL) "present_cars" = some (some (.ref pLc)))
    (gLc : PySem.W.specialIn K (.ref pLc) "__get__" = some (some (.builtin "property.__get__")))
    (tLc : PySem.W.takesIn K (.ref pLc) = some true)
    (rLc : PySem.W.recIn K pLc "property" = some (.ref fLc :: rLcL))
    (lLc : K.lookup fLc = some ⟨ocLc, odLc, .func (PySem.W.fnOf "present_cars" "LiveRoad.present_cars" (defArgs sLiveRoadPresentCars) (defBody sLiveRoadPresentCars) (defScope sLiveRoadPresentCars) .none kVLc dcLc pmLc anLc cdLc ctLc), slLc⟩)
    (cLc : PySem.W.codeIn K cdLc "LiveRoad.present_cars" = true)
    (kLc : PySem.W.keepIn K (.ref fLc) = true)
    (aLh : PySem.W.findIn K (.ref CL) "history" = some (some (.ref pLh)))
    (gLh : PySem.W.specialIn K (.ref pLh) "__get__" = some (some (.builtin "property.__get__")))
    (tLh : PySem.W.takesIn K (.ref pLh) = some true)
    (rLh : PySem.W.recIn K pLh "property" = some (.ref fLh :: rLhL))
    (lLh : K.lookup fLh = some ⟨ocLh, odLh, .func (PySem.W.fnOf "history" "LiveRoad.history" (defArgs sLiveRoadHistory) (defBody sLiveRoadHistory) (defScope sLiveRoadHistory) .none kVLh dcLh pmLh anLh cdLh ctLh), slLh⟩)
    (cLh : PySem.W.codeIn K cdLh "LiveRoad.history" = true)
    (kLh : PySem.W.keepIn K (.ref fLh) = true)
    (aRo : PySem.W.findCls K (.ref CR) mc "of_units" = some (.get (.builtin "classmethod.__get__") (.ref pO) .none (.ref CR)))
    (rRo : PySem.W.recIn K pO "classmethod" = some (.ref fRo :: rO))
    (lRo : K.lookup fRo = some ⟨ocRo, odRo, .func (PySem.W.fnOf "of_units" "Road.of_units" (defArgs sROfUnits) (defBody sROfUnits) (defScope sROfUnits) .none kVRo dcRo pmRo anRo cdRo ctRo), slRo⟩)
    (cRo : PySem.W.codeIn K cdRo "Road.of_units" = true)
    (kRo : PySem.W.keepIn K (.ref fRo) = true)
    (fRo' : PySem.W.fnIn K fRo = true)
    (cr1 : PySem.W.readsIn K CR mc = true)
    (cr2 : PySem.W.specialIn K (.ref CR) "__getattribute__" = some (some (.builtin "type.__getattribute__")))
    (aLz : PySem.W.findCls K (.ref CL) mc "replay" = some (.get (.builtin "classmethod.__get__") (.ref pLz) .none (.ref CL)))
    (rLz : PySem.W.recIn K pLz "classmethod" = some (.ref fLz :: rLzL))
    (lLz : K.lookup fLz = some ⟨ocLz, odLz, .func (PySem.W.fnOf "replay" "LiveRoad.replay" (defArgs sLiveRoadReplay) (defBody sLiveRoadReplay) (defScope sLiveRoadReplay) .none kVLz dcLz pmLz anLz cdLz ctLz), slLz⟩)
    (cLz : PySem.W.codeIn K cdLz "LiveRoad.replay" = true)
    (kLz : PySem.W.keepIn K (.ref fLz) = true)
    (jLz : PySem.W.fnIn K fLz = true)
    (cr1CL : PySem.W.readsIn K CL mc = true)
    (cr2CL : PySem.W.specialIn K (.ref CL) "__getattribute__" = some (some (.builtin "type.__getattribute__")))
    (aRs : PySem.W.findIn K (.ref CR) "sections" = some (some (.ref pRs)))
    (gRs : PySem.W.specialIn K (.ref pRs) "__get__" = some (some (.builtin "property.__get__")))
    (tRs : PySem.W.takesIn K (.ref pRs) = some true)
    (rRs : PySem.W.recIn K pRs "property" = some (.ref fRs :: rRsL))
    (lRs : K.lookup fRs = some ⟨ocRs, odRs, .func (PySem.W.fnOf "sections" "Road.sections" (defArgs sRSections) (defBody sRSections) (defScope sRSections) .none kVRs dcRs pmRs anRs cdRs ctRs), slRs⟩)
    (cRs : PySem.W.codeIn K cdRs "Road.sections" = true)
    (kRs : PySem.W.keepIn K (.ref fRs) = true)
    (jDg : PySem.W.fnIn K fDg = true)
    (jDa : PySem.W.fnIn K fDa = true)
    (pgC : PySem.W.plainGet K C Str.empty = true)
    (hdC : PySem.W.hasDictIn K C = true)
    (poC : PySem.W.plainOver K C = true)
    (saC : PySem.W.findIn K (.ref C) "__setattr__" = some (some (.builtin "object.__setattr__")))
    (mkC : PySem.W.makesIn K C = true)
    (kcC : PySem.W.keepIn K (.ref C) = true)
    (pgR : PySem.W.plainGet K CR Str.empty = true)
    (hdR : PySem.W.hasDictIn K CR = true)
    (poR : PySem.W.plainOver K CR = true)
    (saR : PySem.W.findIn K (.ref CR) "__setattr__" = some (some (.builtin "object.__setattr__")))
    (mkR : PySem.W.makesIn K CR = true)
    (kcR : PySem.W.keepIn K (.ref CR) = true)
    (pgL : PySem.W.plainGet K CL Str.empty = true)
    (hdL : PySem.W.hasDictIn K CL = true)
    (poL : PySem.W.plainOver K CL = true)
    (saL : PySem.W.findIn K (.ref CL) "__setattr__" = some (some (.builtin "object.__setattr__")))
    (mkL : PySem.W.makesIn K CL = true)
    (kcL : PySem.W.keepIn K (.ref CL) = true)
    (nC_sections : PySem.W.findIn K (.ref C) "_sections" = some none)
    (nC_paces : PySem.W.findIn K (.ref C) "_paces" = some none)
    (nC_ticks : PySem.W.findIn K (.ref C) "_ticks" = some none)
    (nC_orders : PySem.W.findIn K (.ref C) "_orders" = some none)
    (nC_leaders : PySem.W.findIn K (.ref C) "_leaders" = some none)
    (nL_states : PySem.W.findIn K (.ref CL) "_states" = some none)
    (nL_undone : PySem.W.findIn K (.ref CL) "_undone" = some none)
    (nL_in_block : PySem.W.findIn K (.ref CL) "_in_block" = some none)
    (nL_kept_states : PySem.W.findIn K (.ref CL) "_kept_states" = some none)
    (nL_kept_undone : PySem.W.findIn K (.ref CL) "_kept_undone" = some none)
    (nR_sections : PySem.W.findIn K (.ref CR) "_sections" = some none)
    (nR_units : PySem.W.findIn K (.ref CR) "_units" = some none)
    (z_isinstance : PySem.W.nsIn K mainGlobals "isinstance" = some none)
    (z_int : PySem.W.nsIn K mainGlobals "int" = some none)
    (z_bool : PySem.W.nsIn K mainGlobals "bool" = some none)
    (z_str : PySem.W.nsIn K mainGlobals "str" = some none)
    (z_tuple : PySem.W.nsIn K mainGlobals "tuple" = some none)
    (z_len : PySem.W.nsIn K mainGlobals "len" = some none)
    (z_all : PySem.W.nsIn K mainGlobals "all" = some none)
    (z_enumerate : PySem.W.nsIn K mainGlobals "enumerate" = some none)
    (z_sorted : PySem.W.nsIn K mainGlobals "sorted" = some none)
    (z_list : PySem.W.nsIn K mainGlobals "list" = some none)
    (z_range : PySem.W.nsIn K mainGlobals "range" = some none)
    (z_sum : PySem.W.nsIn K mainGlobals "sum" = some none)
    (z_ValueError : PySem.W.nsIn K mainGlobals "ValueError" = some none)
    (v0 : PySem.W.nsIn K mainGlobals "MOST_CARS" = some (some (.int 10 t0)))
    (v1 : PySem.W.nsIn K mainGlobals "LONGEST_NAME" = some (some (.int 8 t1)))
    (v2 : PySem.W.nsIn K mainGlobals "LATEST_START" = some (some (.int 1000000 t2)))
    (v3 : PySem.W.nsIn K mainGlobals "SLOWEST_PACE" = some (some (.int 60 t3)))
    (v4 : PySem.W.nsIn K mainGlobals "MOST_SECTIONS" = some (some (.int 12 t4)))
    (v5 : PySem.W.nsIn K mainGlobals "LONGEST_SECTION" = some (some (.int 99 t5)))
    (aL : PySem.W.nsIn K mainGlobals "LETTERS" = some (some (.ref lp)))
    (aK : PySem.W.nsIn K mainGlobals "KINDS" = some (some (.ref kp)))
    (dlN : KDct K w lp "narrow" (.str "n"))
    (dlW : KDct K w lp "wide" (.str "w"))
    (dkN : KDct K w kp "n" (.str "narrow"))
    (dkW : KDct K w kp "w" (.str "wide"))
    (kM : (kp == sysModules) = false)
    (eE : PySem.W.nsIn K mainGlobals "RoadError" = some (some (.ref CE)))
    (e0 : PySem.W.nsIn K mainGlobals "UnknownCar" = some (some (.ref c0)))
    (e1 : PySem.W.nsIn K mainGlobals "InvalidNumber" = some (some (.ref c1)))
    (e2 : PySem.W.nsIn K mainGlobals "InvalidName" = some (some (.ref c2)))
    (e3 : PySem.W.nsIn K mainGlobals "Contradiction" = some (some (.ref c3)))
    (e4 : PySem.W.nsIn K mainGlobals "InvalidOperation" = some (some (.ref c4)))
    (e5 : PySem.W.nsIn K mainGlobals "TooManyCars" = some (some (.ref c5)))
    (dEs : PySem.W.subIn K (.ref CE) (.type "BaseException") = some true)
    (dEh : PySem.W.hasDictIn K CE = true)
    (dEt : PySem.W.typeIn K (.ref CE) = some (.type "type"))
    (d0c : PySem.W.isClsIn K c0 = true)
    (d0t : PySem.W.typeIn K (.ref c0) = some (.type "type"))
    (d1c : PySem.W.isClsIn K c1 = true)
    (d1t : PySem.W.typeIn K (.ref c1) = some (.type "type"))
    (d2c : PySem.W.isClsIn K c2 = true)
    (d2t : PySem.W.typeIn K (.ref c2) = some (.type "type"))
    (d3c : PySem.W.isClsIn K c3 = true)
    (d3t : PySem.W.typeIn K (.ref c3) = some (.type "type"))
    (d4c : PySem.W.isClsIn K c4 = true)
    (d4t : PySem.W.typeIn K (.ref c4) = some (.type "type"))
    (d5c : PySem.W.isClsIn K c5 = true)
    (d5t : PySem.W.typeIn K (.ref c5) = some (.type "type"))
    (r0cl : PySem.W.isClsIn K c0 = true)
    (r0ga : PySem.W.findIn K (.ref c0) "__getattribute__" = some (some (.builtin "BaseException.__getattribute__")))
    (r0gg : PySem.W.findIn K (.ref c0) "__getattr__" = some none)
    (r0sb : PySem.W.subIn K (.ref c0) (.type "BaseException") = some true)
    (r0hd : PySem.W.hasDictIn K c0 = true)
    (r0ct : PySem.W.findIn K (.ref c0) "__class__" = some (some (.builtin "object.__class__")))
    (r0mr : PySem.W.mroIn K c0 (.type "object") = some true)
    (r0ix : PySem.W.findIn K (.ref c0) "index" = some none)
    (r0nm : PySem.W.findIn K (.ref c0) "name" = some none)
    (r0xe : PySem.W.subIn K (.ref c0) (.ref CE) = some true)
    (r0kv : PySem.W.subIn K (.ref c0) (.type "ValueError") = some true)
    (r0k0 : PySem.W.subIn K (.ref c0) (.ref c0) = some true)
    (r0k1 : PySem.W.subIn K (.ref c0) (.ref c1) = some false)
    (r0k2 : PySem.W.subIn K (.ref c0) (.ref c2) = some false)
    (r0k3 : PySem.W.subIn K (.ref c0) (.ref c3) = some false)
    (r0k4 : PySem.W.subIn K (.ref c0) (.ref c4) = some false)
    (r0k5 : PySem.W.subIn K (.ref c0) (.ref c5) = some false)
    (r2cl : PySem.W.isClsIn K c2 = true)
    (r2ga : PySem.W.findIn K (.ref c2) "__getattribute__" = some (some (.builtin "BaseException.__getattribute__")))
    (r2gg : PySem.W.findIn K (.ref c2) "__getattr__" = some none)
    (r2sb : PySem.W.subIn K (.ref c2) (.type "BaseException") = some true)
    (r2hd : PySem.W.hasDictIn K c2 = true)
    (r2ct : PySem.W.findIn K (.ref c2) "__class__" = some (some (.builtin "object.__class__")))
    (r2mr : PySem.W.mroIn K c2 (.type "object") = some true)
    (r2ix : PySem.W.findIn K (.ref c2) "index" = some none)
    (r2nm : PySem.W.findIn K (.ref c2) "name" = some none)
    (r2xe : PySem.W.subIn K (.ref c2) (.ref CE) = some true)
    (r2kv : PySem.W.subIn K (.ref c2) (.type "ValueError") = some true)
    (r2k0 : PySem.W.subIn K (.ref c2) (.ref c0) = some false)
    (r2k1 : PySem.W.subIn K (.ref c2) (.ref c1) = some false)
    (r2k2 : PySem.W.subIn K (.ref c2) (.ref c2) = some true)
    (r2k3 : PySem.W.subIn K (.ref c2) (.ref c3) = some false)
    (r2k4 : PySem.W.subIn K (.ref c2) (.ref c4) = some false)
    (r2k5 : PySem.W.subIn K (.ref c2) (.ref c5) = some false)
    (r4cl : PySem.W.isClsIn K c4 = true)
    (r4ga : PySem.W.findIn K (.ref c4) "__getattribute__" = some (some (.builtin "BaseException.__getattribute__")))
    (r4gg : PySem.W.findIn K (.ref c4) "__getattr__" = some none)
    (r4sb : PySem.W.subIn K (.ref c4) (.type "BaseException") = some true)
    (r4hd : PySem.W.hasDictIn K c4 = true)
    (r4ct : PySem.W.findIn K (.ref c4) "__class__" = some (some (.builtin "object.__class__")))
    (r4mr : PySem.W.mroIn K c4 (.type "object") = some true)
    (r4ix : PySem.W.findIn K (.ref c4) "index" = some none)
    (r4nm : PySem.W.findIn K (.ref c4) "name" = some none)
    (r4xe : PySem.W.subIn K (.ref c4) (.ref CE) = some true)
    (r4kv : PySem.W.subIn K (.ref c4) (.type "ValueError") = some true)
    (r4k0 : PySem.W.subIn K (.ref c4) (.ref c0) = some false)
    (r4k1 : PySem.W.subIn K (.ref c4) (.ref c1) = some false)
    (r4k2 : PySem.W.subIn K (.ref c4) (.ref c2) = some false)
    (r4k3 : PySem.W.subIn K (.ref c4) (.ref c3) = some false)
    (r4k4 : PySem.W.subIn K (.ref c4) (.ref c4) = some true)
    (r4k5 : PySem.W.subIn K (.ref c4) (.ref c5) = some false)
    (r5cl : PySem.W.isClsIn K c5 = true)
    (r5ga : PySem.W.findIn K (.ref c5) "__getattribute__" = some (some (.builtin "BaseException.__getattribute__")))
    (r5gg : PySem.W.findIn K (.ref c5) "__getattr__" = some none)
    (r5sb : PySem.W.subIn K (.ref c5) (.type "BaseException") = some true)
    (r5hd : PySem.W.hasDictIn K c5 = true)
    (r5ct : PySem.W.findIn K (.ref c5) "__class__" = some (some (.builtin "object.__class__")))
    (r5mr : PySem.W.mroIn K c5 (.type "object") = some true)
    (r5ix : PySem.W.findIn K (.ref c5) "index" = some none)
    (r5nm : PySem.W.findIn K (.ref c5) "name" = some none)
    (r5xe : PySem.W.subIn K (.ref c5) (.ref CE) = some true)
    (r5kv : PySem.W.subIn K (.ref c5) (.type "ValueError") = some true)
    (r5k0 : PySem.W.subIn K (.ref c5) (.ref c0) = some false)
    (r5k1 : PySem.W.subIn K (.ref c5) (.ref c1) = some false)
    (r5k2 : PySem.W.subIn K (.ref c5) (.ref c2) = some false)
    (r5k3 : PySem.W.subIn K (.ref c5) (.ref c3) = some false)
    (r5k4 : PySem.W.subIn K (.ref c5) (.ref c4) = some false)
    (r5k5 : PySem.W.subIn K (.ref c5) (.ref c5) = some true)
    (xU : K.lookup c0 = some (PySem.excClassObj nmU qU c0 NU bsU [.ref CE, .type "ValueError", .type "Exception", .type "BaseException", .type "object"] true snU subU abU colU ddU u0U u1U u2U u3U u5U "ValueError.__new__"))
    (saU : PySem.W.findIn K (.ref c0) "__setattr__" = some (some (.builtin "object.__setattr__")))
    (kU : PySem.W.keepIn K (.ref c0) = true)
    (aUi : PySem.W.findIn K (.ref c0) "__init__" = some (some (.ref fUi)))
    (tUi : PySem.W.typeIn K (.ref fUi) = some (.type "function"))
    (lUi : K.lookup fUi = some ⟨ocUi, odUi, .func (PySem.W.fnOf "__init__" "UnknownCar.__init__" (defArgs sUnknownCarInit) (defBody sUnknownCarInit) (defScope sUnknownCarInit) .none kVUi dcUi pmUi anUi cdUi ctUi), slUi⟩)
    (cUi : PySem.W.codeIn K cdUi "UnknownCar.__init__" = true)
    (kUi : PySem.W.keepIn K (.ref fUi) = true)
    (xO : K.lookup c4 = some (PySem.excClassObj nmO qO c4 NO bsO [.ref CE, .type "ValueError", .type "Exception", .type "BaseException", .type "object"] true snO subO abO colO ddO u0O u1O u2O u3O u5O "ValueError.__new__"))
    (saO : PySem.W.findIn K (.ref c4) "__setattr__" = some (some (.builtin "object.__setattr__")))
    (kO : PySem.W.keepIn K (.ref c4) = true)
    (aOi : PySem.W.findIn K (.ref c4) "__init__" = some (some (.ref fOi)))
    (tOi : PySem.W.typeIn K (.ref fOi) = some (.type "function"))
    (lOi : K.lookup fOi = some ⟨ocOi, odOi, .func (PySem.W.fnOf "__init__" "InvalidOperation.__init__" (defArgs sInvalidOperationInit) (defBody sInvalidOperationInit) (defScope sInvalidOperationInit) .none kVOi dcOi pmOi anOi cdOi ctOi), slOi⟩)
    (cOi : PySem.W.codeIn K cdOi "InvalidOperation.__init__" = true)
    (kOi : PySem.W.keepIn K (.ref fOi) = true)
    (n2q : PySem.W.excIn K c2 [.type "ValueError", .type "Exception", .type "BaseException", .type "object"] "ValueError.__new__" = true)
    (n2k : PySem.W.keepIn K (.ref c2) = true)
    (n5q : PySem.W.excIn K c5 [.type "ValueError", .type "Exception", .type "BaseException", .type "object"] "ValueError.__new__" = true)
    (n5k : PySem.W.keepIn K (.ref c5) = true)
    (qhn : PySem.W.specialIn K (.builtin "object.__class__") "__get__" = some (some (.builtin "getset_descriptor.__get__")))
    (qht : PySem.W.takesIn K (.builtin "object.__class__") = some true)
    (bgf : PySem.W.specialIn K (.ref fLp) "__get__" = some (some (.builtin "function.__get__")))
    (btk : PySem.W.takesIn K (.ref fLp) = some false)
    (bfi : PySem.W.fnIn K fLp = true)
    (oA : PySem.W.nsIn K mainGlobals "ACTIONS" = some (some (.ref ap)))
    (oG : PySem.W.nsIn K mainGlobals "ARGUMENTS" = some (some (.ref gp)))
    (oJa : KDct K w ap "join" (.ref fjo))
    (oRa : KDct K w ap "remove" (.ref fre))
    (oSa : KDct K w ap "set_kind" (.ref fsk))
    (oJg : KDct K w gp "join" (.int 3))
    (oRg : KDct K w gp "remove" (.int 1))
    (oSg : KDct K w gp "set_kind" (.int 2))
    (oM : (gp == sysModules) = false)
    (neP01 : Pio ≠ Pdr)
    (neP02 : Pio ≠ Pla)
    (neP12 : Pdr ≠ Pla)
    (hT : ∀ P ∈ [Pio, Pdr, Pla], h.get? P = some { cls := .none, data := .fields #[] }) : LamX.LawAtS l w K CX0 15 63 "_law_script" mg fa h := by
  have e := hfa.symm.trans (PySem.W.mg_of X G ala)
  cases e
  have M : Mg mg := ⟨PySem.W.mg_none_of X G z_isinstance, PySem.W.mg_none_of X G z_int, PySem.W.mg_none_of X G z_bool, PySem.W.mg_none_of X G z_str, PySem.W.mg_none_of X G z_tuple, PySem.W.mg_none_of X G z_len, PySem.W.mg_none_of X G z_all, PySem.W.mg_none_of X G z_enumerate, PySem.W.mg_none_of X G z_sorted, PySem.W.mg_none_of X G z_list, PySem.W.mg_none_of X G z_range, PySem.W.mg_none_of X G z_sum, ⟨_, PySem.W.mg_of X G v0⟩, ⟨_, PySem.W.mg_of X G v1⟩, ⟨_, PySem.W.mg_of X G v2⟩, ⟨_, PySem.W.mg_of X G v3⟩, ⟨_, PySem.W.mg_of X G v4⟩, ⟨_, PySem.W.mg_of X G v5⟩⟩
  have R : DriveT K mg C := ⟨⟨pgC, hdC, poC, saC⟩, nC_sections, nC_paces, nC_ticks, nC_orders, nC_leaders, PySem.W.mg_of X G aC⟩
  have RR : RoadT K w mg CR lp kp := ⟨⟨pgR, hdR, poR, saR⟩, nR_sections, nR_units, PySem.W.mg_of X G aR, PySem.W.mg_of X G aL, PySem.W.mg_of X G aK, dlN, dlW, dkN, dkW, kM⟩
  have Fin := fun_mk (st := sIsNumber) lin cin kin
  have Bin : Fb K mg "is_number" sIsNumber ["value", "least", "most"] fin _ := ⟨Fin, PySem.W.mg_of X G ain, Fin.binds (ps := ["value", "least", "most"]) fun _ _ _ _ _ _ us hl => match us, hl with | [_, _, _], _ => rfl⟩
  have Fnm := fun_mk (st := sIsName) lnm cnm knm
  have Bnm : Fb K mg "is_name" sIsName ["value"] fnm _ := ⟨Fnm, PySem.W.mg_of X G anm, Fnm.binds (ps := ["value"]) fun _ _ _ _ _ _ us hl => match us, hl with | [_], _ => rfl⟩
  have Fic := fun_mk (st := sIsCar) lic cic kic
  have Bic : Fb K mg "is_car" sIsCar ["value"] fic _ := ⟨Fic, PySem.W.mg_of X G aic, Fic.binds (ps := ["value"]) fun _ _ _ _ _ _ us hl => match us, hl with | [_], _ => rfl⟩
  have Fcc := fun_mk (st := sCheckCars) lcc ccc kcc
  have Bcc : Fb K mg "check_cars" sCheckCars ["cars"] fcc _ := ⟨Fcc, PySem.W.mg_of X G acc, Fcc.binds (ps := ["cars"]) fun _ _ _ _ _ _ us hl => match us, hl with | [_], _ => rfl⟩
  have Fkn := fun_mk (st := sCheckKnown) lkn ckn kkn
  have Bkn : Fb K mg "check_known" sCheckKnown ["cars", "name"] fkn _ := ⟨Fkn, PySem.W.mg_of X G akn, Fkn.binds (ps := ["cars", "name"]) fun _ _ _ _ _ _ us hl => match us, hl with | [_, _], _ => rfl⟩
  have Fcw := fun_mk (st := sCheckNewName) lcw ccw kcw
  have Bcw : Fb K mg "check_new_name" sCheckNewName ["cars", "name"] fcw _ := ⟨Fcw, PySem.W.mg_of X G acw, Fcw.binds (ps := ["cars", "name"]) fun _ _ _ _ _ _ us hl => match us, hl with | [_, _], _ => rfl⟩
  have Bio : FbC K mg "_in_order" sInOrder ["names", "ticks"] fio _ ccio := ⟨⟨⟨_, _, _, _, _, _, _, _, rfl, lio, cio⟩, kio⟩, PySem.W.mg_of X G aio, .all fun us hl => match us, hl with | [_, _], _ => rfl⟩
  have Ffo := fun_mk (st := sFollow) lfo cfo kfo
  have Bfo : Fb K mg "_follow" sFollow ["order", "free"] ffo _ := ⟨Ffo, PySem.W.mg_of X G afo, Ffo.binds (ps := ["order", "free"]) fun _ _ _ _ _ _ us hl => match us, hl with | [_, _], _ => rfl⟩
  have Fdv := fun_mk (st := sDriveAll) ldv cdv kdv
  have Bdv : Fb K mg "drive_all" sDriveAll ["sections", "starts", "paces"] fdv _ := ⟨Fdv, PySem.W.mg_of X G adv, Fdv.binds (ps := ["sections", "starts", "paces"]) fun _ _ _ _ _ _ us hl => match us, hl with | [_, _, _], _ => rfl⟩
  have Fis := fun_mk (st := sIsSection) lis cis kis
  have Bis : Fb K mg "_is_section" sIsSection ["value"] fis _ := ⟨Fis, PySem.W.mg_of X G ais, Fis.binds (ps := ["value"]) fun _ _ _ _ _ _ us hl => match us, hl with | [_], _ => rfl⟩
  have Fuo := fun_mk (st := sUnitsOf) luo cuo kuo
  have Buo : Fb K mg "_units_of" sUnitsOf ["sections"] fuo _ := ⟨Fuo, PySem.W.mg_of X G auo, Fuo.binds (ps := ["sections"]) fun _ _ _ _ _ _ us hl => match us, hl with | [_], _ => rfl⟩
  have Fru := fun_mk (st := sRuns) lru cru kru
  have Bru : Fb K mg "_runs" sRuns ["units"] fru _ := ⟨Fru, PySem.W.mg_of X G aru, Fru.binds (ps := ["units"]) fun _ _ _ _ _ _ us hl => match us, hl with | [_], _ => rfl⟩
  have Fai := fun_mk (st := sArrivals) lai cai kai
  have Bai : Fb K mg "_arrivals" sArrivals ["road", "cars"] fai _ := ⟨Fai, PySem.W.mg_of X G aai, Fai.binds (ps := ["road", "cars"]) fun _ _ _ _ _ _ us hl => match us, hl with | [_, _], _ => rfl⟩
  have Fch := fun_mk (st := sChanges) lch cch kch
  have Bch : Fb K mg "_changes" sChanges ["before", "after"] fch _ := ⟨Fch, PySem.W.mg_of X G ach, Fch.binds (ps := ["before", "after"]) fun _ _ _ _ _ _ us hl => match us, hl with | [_, _], _ => rfl⟩
  have Fjo := fun_mk (st := sJoin) ljo cjo kjo
  have Bjo : Fb K mg "_join" sJoin ["road", "cars", "name", "start", "pace"] fjo _ := ⟨Fjo, PySem.W.mg_of X G ajo, Fjo.binds (ps := ["road", "cars", "name", "start", "pace"]) fun _ _ _ _ _ _ us hl => match us, hl with | [_, _, _, _, _], _ => rfl⟩
  have Fre := fun_mk (st := sRemove) lre cre kre
  have Bre : Fb K mg "_remove" sRemove ["road", "cars", "name"] fre _ := ⟨Fre, PySem.W.mg_of X G are, Fre.binds (ps := ["road", "cars", "name"]) fun _ _ _ _ _ _ us hl => match us, hl with | [_, _, _], _ => rfl⟩
  have Fsk := fun_mk (st := sSetKind) lsk csk ksk
  have Bsk : Fb K mg "_set_kind" sSetKind ["road", "cars", "section", "kind"] fsk _ := ⟨Fsk, PySem.W.mg_of X G ask, Fsk.binds (ps := ["road", "cars", "section", "kind"]) fun _ _ _ _ _ _ us hl => match us, hl with | [_, _, _, _], _ => rfl⟩
  have Fop := fun_mk (st := sIsOperation) lop cop kop
  have Bop : Fb K mg "_is_operation" sIsOperation ["value"] fop _ := ⟨Fop, PySem.W.mg_of X G aop, Fop.binds (ps := ["value"]) fun _ _ _ _ _ _ us hl => match us, hl with | [_], _ => rfl⟩
  have Fex := fun_mk (st := sExecute) lex cex kex
  have Bex : Fb K mg "_execute" sExecute ["states", "operations"] fex _ := ⟨Fex, PySem.W.mg_of X G aex, Fex.binds (ps := ["states", "operations"]) fun _ _ _ _ _ _ us hl => match us, hl with | [_, _], _ => rfl⟩
  have Fta := fun_mk (st := sTaken) lta cta kta
  have Bta : Fb K mg "_law_taken" sTaken ["_law_row", "_law_many"] fta _ := ⟨Fta, PySem.W.mg_of X G ata, Fta.binds (ps := ["_law_row", "_law_many"]) fun _ _ _ _ _ _ us hl => match us, hl with | [_, _], _ => rfl⟩
  have Fuu := fun_mk (st := sUnits) luu cuu kuu
  have Buu : Fb K mg "_law_units" sUnits ["_law_row", "_law_most"] fuu _ := ⟨Fuu, PySem.W.mg_of X G auu, Fuu.binds (ps := ["_law_row", "_law_most"]) fun _ _ _ _ _ _ us hl => match us, hl with | [_, _], _ => rfl⟩
  have Fse := fun_mk (st := sSections) lse cse kse
  have Bse : Fb K mg "_law_sections" sSections ["_law_units_here"] fse _ := ⟨Fse, PySem.W.mg_of X G ase, Fse.binds (ps := ["_law_units_here"]) fun _ _ _ _ _ _ us hl => match us, hl with | [_], _ => rfl⟩
  have Bdr : FbC K mg "_law_driven" sDriven ["_law_sections_here", "_law_cars"] fdr _ ccdr := ⟨⟨⟨_, _, _, _, _, _, _, _, rfl, ldr, cdr⟩, kdr⟩, PySem.W.mg_of X G adr, .all fun us hl => match us, hl with | [_, _], _ => rfl⟩
  have Fle := fun_mk (st := sLess) lle cle kle
  have Ble : Fb K mg "_law_less" sLess ["_law_cars", "_law_name"] fle _ := ⟨Fle, PySem.W.mg_of X G ale, Fle.binds (ps := ["_law_cars", "_law_name"]) fun _ _ _ _ _ _ us hl => match us, hl with | [_, _], _ => rfl⟩
  have Fto := fun_mk (st := sRaised) lto cto kto
  have Bto : Fb K mg "_law_raised" sRaised ["_law_work"] fto _ := ⟨Fto, PySem.W.mg_of X G ato, Fto.binds (ps := ["_law_work"]) fun _ _ _ _ _ _ us hl => match us, hl with | [_], _ => rfl⟩
  have Fde := fun_mk (st := sDeed) lde cde kde
  have Bde : Fb K mg "_law_deed" sDeed ["_law_row", "_law_h"] fde _ := ⟨Fde, PySem.W.mg_of X G ade, Fde.binds (ps := ["_law_row", "_law_h"]) fun _ _ _ _ _ _ us hl => match us, hl with | [_, _], _ => rfl⟩
  have Fdo := fun_mk (st := sDoes) ldo cdo kdo
  have Bdo : Fb K mg "_law_does" sDoes ["_law_h", "_law_deed_here"] fdo _ := ⟨Fdo, PySem.W.mg_of X G ado, Fdo.binds (ps := ["_law_h", "_law_deed_here"]) fun _ _ _ _ _ _ us hl => match us, hl with | [_, _], _ => rfl⟩
  have Fas := fun_mk (st := sAsked) las cas kas
  have Bas : Fb K mg "_law_asked" sAsked ["_law_live", "_law_deed_here"] fas _ := ⟨Fas, PySem.W.mg_of X G aas, Fas.binds (ps := ["_law_live", "_law_deed_here"]) fun _ _ _ _ _ _ us hl => match us, hl with | [_, _], _ => rfl⟩
  have Ftl := fun_mk (st := sTold) ltl ctl ktl
  have Btl : Fb K mg "_law_told" sTold ["_law_live"] ftl _ := ⟨Ftl, PySem.W.mg_of X G atl, Ftl.binds (ps := ["_law_live"]) fun _ _ _ _ _ _ us hl => match us, hl with | [_], _ => rfl⟩
  have Fla : FunC K "law" "law" sLaw _ _ ccla := ⟨⟨_, _, _, _, _, _, _, _, rfl, lla, cla⟩, kla⟩
  have FDi := fun_mk (st := sDInit) lDi cDi kDi
  have bDi := FDi.binds (ps := ["self", "road", "cars"]) fun _ _ _ _ _ _ us hl => match us, hl with | [_, _, _], _ => rfl
  have FDc := fun_mk (st := sDCheckCar) lDc cDc kDc
  have bDc := FDc.binds (ps := ["self", "name"]) fun _ _ _ _ _ _ us hl => match us, hl with | [_, _], _ => rfl
  have FDp := fun_mk (st := sDCheckPlace) lDp cDp kDp
  have bDp := FDp.binds (ps := ["self", "place"]) fun _ _ _ _ _ _ us hl => match us, hl with | [_, _], _ => rfl
  have FDg := fun_mk (st := sDGet) lDg cDg kDg
  have bDg := FDg.binds (ps := ["self", "at"]) fun _ _ _ _ _ _ us hl => match us, hl with | [_, _], _ => rfl
  have FDa : FunD K "__call__" "Drive.__call__" (defArgs sDCall) (defBody sDCall) (defScope sDCall) [.non] [] fDa _ := ⟨⟨_, _, _, _, _, _, _, _, _, _, rfl, lDa, cDa, .inr ⟨by simp, Td, _, [Value.none], nT, rfl, lT, rfl, .cons rfl .nil⟩, .inl rfl⟩, kDa⟩
  obtain ⟨ds0, v0, bDa0⟩ := FDa.binds1 (ps := ["self", "name", "place"]) 3 1 (by simp) rfl (fun T kV doc pm an cdv ct us its hl hi => match us, hl, its, hi with | [_, _, _], _, [_], _ => ⟨_, rfl, rfl⟩)
  have e0 : ds0 = [] := by cases v0; rfl
  subst e0
  obtain ⟨dsDa, vDa, bDa1⟩ := FDa.binds1 (ps := ["self", "name", "place"]) 2 0 (by simp) rfl (fun T kV doc pm an cdv ct us its hl hi => match us, hl, its, hi with | [_, _], _, [_], _ => ⟨_, rfl, rfl⟩)
  have FDh := fun_mk (st := sDHas) lDh cDh kDh
  have bDh := FDh.binds (ps := ["self", "x"]) fun _ _ _ _ _ _ us hl => match us, hl with | [_, _], _ => rfl
  have FRi := fun_mk (st := sRInit) lRi cRi kRi
  have FLi := fun_mk (st := sLiveRoadInit) lLi cLi kLi
  have bLi := FLi.binds (ps := ["self", "road"]) fun _ _ _ _ _ _ us hl => match us, hl with | [_, _], _ => rfl
  have FLj := fun_mk (st := sLiveRoadJoin) lLj cLj kLj
  have bLj := FLj.binds (ps := ["self", "name", "start", "pace"]) fun _ _ _ _ _ _ us hl => match us, hl with | [_, _, _, _], _ => rfl
  have FLr := fun_mk (st := sLiveRoadRemove) lLr cLr kLr
  have bLr := FLr.binds (ps := ["self", "name"]) fun _ _ _ _ _ _ us hl => match us, hl with | [_, _], _ => rfl
  have FLk := fun_mk (st := sLiveRoadSetKind) lLk cLk kLk
  have bLk := FLk.binds (ps := ["self", "section", "kind"]) fun _ _ _ _ _ _ us hl => match us, hl with | [_, _, _], _ => rfl
  have FLp := fun_mk (st := sLiveRoadApply) lLp cLp kLp
  have FLb := fun_mk (st := sLiveRoadCheckNoBlock) lLb cLb kLb
  have bLb := FLb.binds (ps := ["self"]) fun _ _ _ _ _ _ us hl => match us, hl with | [_], _ => rfl
  have FLa := fun_mk (st := sLiveRoadArrivalsAfter) lLa cLa kLa
  have FLu := fun_mk (st := sLiveRoadUndo) lLu cLu kLu
  have bLu := FLu.binds (ps := ["self"]) fun _ _ _ _ _ _ us hl => match us, hl with | [_], _ => rfl
  have FLy := fun_mk (st := sLiveRoadRedo) lLy cLy kLy
  have bLy := FLy.binds (ps := ["self"]) fun _ _ _ _ _ _ us hl => match us, hl with | [_], _ => rfl
  have FLd := fun_mk (st := sLiveRoadDrive) lLd cLd kLd
  have bLd := FLd.binds (ps := ["self"]) fun _ _ _ _ _ _ us hl => match us, hl with | [_], _ => rfl
  have FLx := fun_mk (st := sLiveRoadContains) lLx cLx kLx
  have bLx := FLx.binds (ps := ["self", "x"]) fun _ _ _ _ _ _ us hl => match us, hl with | [_, _], _ => rfl
  have FLn := fun_mk (st := sLiveRoadLen) lLn cLn kLn
  have bLn := FLn.binds (ps := ["self"]) fun _ _ _ _ _ _ us hl => match us, hl with | [_], _ => rfl
  have FLo := fun_mk (st := sLiveRoadPresentRoad) lLo cLo kLo
  have bLo := FLo.binds (ps := ["self"]) fun _ _ _ _ _ _ us hl => match us, hl with | [_], _ => rfl
  have FLc := fun_mk (st := sLiveRoadPresentCars) lLc cLc kLc
  have bLc := FLc.binds (ps := ["self"]) fun _ _ _ _ _ _ us hl => match us, hl with | [_], _ => rfl
  have FLh := fun_mk (st := sLiveRoadHistory) lLh cLh kLh
  have bLh := FLh.binds (ps := ["self"]) fun _ _ _ _ _ _ us hl => match us, hl with | [_], _ => rfl
  have FRo := fun_mk (st := sROfUnits) lRo cRo kRo
  have bRo := FRo.binds (ps := ["cls", "units"]) fun _ _ _ _ _ _ us hl => match us, hl with | [_, _], _ => rfl
  have FLz := fun_mk (st := sLiveRoadReplay) lLz cLz kLz
  have bLz := FLz.binds (ps := ["cls", "road", "operations"]) fun _ _ _ _ _ _ us hl => match us, hl with | [_, _, _], _ => rfl
  have FRs := fun_mk (st := sRSections) lRs cRs kRs
  have bRs := FRs.binds (ps := ["self"]) fun _ _ _ _ _ _ us hl => match us, hl with | [_], _ => rfl
  have MDi : Fm K C "__init__" "Drive.__init__" sDInit ["self", "road", "cars"] fDi _ := ⟨FDi, ⟨aDi, iDi, kDi⟩, bDi⟩
  have MDc : Fm K C "_check_car" "Drive._check_car" sDCheckCar ["self", "name"] fDc _ := ⟨FDc, ⟨aDc, iDc, kDc⟩, bDc⟩
  have MDp : Fm K C "_check_place" "Drive._check_place" sDCheckPlace ["self", "place"] fDp _ := ⟨FDp, ⟨aDp, iDp, kDp⟩, bDp⟩
  have MLj : Fm K CL "join" "LiveRoad.join" sLiveRoadJoin ["self", "name", "start", "pace"] fLj _ := ⟨FLj, ⟨aLj, iLj, kLj⟩, bLj⟩
  have MLr : Fm K CL "remove" "LiveRoad.remove" sLiveRoadRemove ["self", "name"] fLr _ := ⟨FLr, ⟨aLr, iLr, kLr⟩, bLr⟩
  have MLk : Fm K CL "set_kind" "LiveRoad.set_kind" sLiveRoadSetKind ["self", "section", "kind"] fLk _ := ⟨FLk, ⟨aLk, iLk, kLk⟩, bLk⟩
  have MLb : Fm K CL "_check_no_block" "LiveRoad._check_no_block" sLiveRoadCheckNoBlock ["self"] fLb _ := ⟨FLb, ⟨aLb, iLb, kLb⟩, bLb⟩
  have MLu : Fm K CL "undo" "LiveRoad.undo" sLiveRoadUndo ["self"] fLu _ := ⟨FLu, ⟨aLu, iLu, kLu⟩, bLu⟩
  have MLy : Fm K CL "redo" "LiveRoad.redo" sLiveRoadRedo ["self"] fLy _ := ⟨FLy, ⟨aLy, iLy, kLy⟩, bLy⟩
  have MLd : Fm K CL "drive" "LiveRoad.drive" sLiveRoadDrive ["self"] fLd _ := ⟨FLd, ⟨aLd, iLd, kLd⟩, bLd⟩
  have MLx : Fm K CL "__contains__" "LiveRoad.__contains__" sLiveRoadContains ["self", "x"] fLx _ := ⟨FLx, ⟨aLx, iLx, kLx⟩, bLx⟩
  have MLn : Fm K CL "__len__" "LiveRoad.__len__" sLiveRoadLen ["self"] fLn _ := ⟨FLn, ⟨aLn, iLn, kLn⟩, bLn⟩
  have POLo : PropOf K CL "present_road" pLo fLo := ⟨aLo, gLo, tLo, _, rLo⟩
  have POLc : PropOf K CL "present_cars" pLc fLc := ⟨aLc, gLc, tLc, _, rLc⟩
  have POLh : PropOf K CL "history" pLh fLh := ⟨aLh, gLh, tLh, _, rLh⟩
  have C3 : Cls K CL := ⟨pgL, hdL, poL, saL⟩
  have MI3 : Mk K CL fLi := ⟨mkL, aLi, iLi, kcL⟩
  let T : List (Addr × Str) := [(Pio, qInOrder), (Pdr, qDriven), (Pla, qLaw)]
  have mio : (Pio, qInOrder) ∈ T := by simp [T]
  have mdr : (Pdr, qDriven) ∈ T := by simp [T]
  have mla : (Pla, qLaw) ∈ T := by simp [T]
  have uio : ∀ p ∈ T, p.1 = Pio → p.2 = qInOrder := fun p hp e => by
    rcases List.mem_cons.mp hp with z | hp
    · rw [z]
    · skip
      rcases List.mem_cons.mp hp with z | hp
      · rw [z] at e
        exact absurd e.symm neP01
      · skip
        rw [(List.mem_singleton.mp hp)] at e
        exact absurd e.symm neP02
  have udr : ∀ p ∈ T, p.1 = Pdr → p.2 = qDriven := fun p hp e => by
    rcases List.mem_cons.mp hp with z | hp
    · rw [z] at e
      exact absurd e neP01
    · skip
      rcases List.mem_cons.mp hp with z | hp
      · rw [z]
      · skip
        rw [(List.mem_singleton.mp hp)] at e
        exact absurd e.symm neP12
  have ula : ∀ p ∈ T, p.1 = Pla → p.2 = qLaw := fun p hp e => by
    rcases List.mem_cons.mp hp with z | hp
    · rw [z] at e
      exact absurd e neP02
    · skip
      rcases List.mem_cons.mp hp with z | hp
      · rw [z] at e
        exact absurd e neP12
      · skip
        rw [(List.mem_singleton.mp hp)]
  have PORs : PropOf K CR "sections" pRs fRs := ⟨aRs, gRs, tRs, _, rRs⟩
  have MI : Mk K C fDi := ⟨mkC, aDi, iDi, kcC⟩
  have MR : Mk K CR fRi := ⟨mkR, aRi, iRi, kcR⟩
  have Cio : PySem.W.CodeHd h ccio Pio := PySem.W.codeHd_of_K X hio
  have Cdr : PySem.W.CodeHd h ccdr Pdr := PySem.W.codeHd_of_K X hdr
  have Cla : PySem.W.CodeHd h ccla Pla := PySem.W.codeHd_of_K X hla
  refine ⟨PySem.W.fnOf "law" "law" (defArgs sLaw) (defBody sLaw) (defScope sLaw) .none kVla dcla pmla anla (.ref ccla) ctla, [(ccio, Pio), (ccdr, Pdr), (ccla, Pla)], spLaw K T, fun p hp => hT p.2 ?_, fun p hp => ?_, fun p hp => ?_, fun s v => .of_eq rfl, fun H a ns _ _ hH hS => ⟨a, ns, rfl, hS, fun p hp => ?_, fun _ => rfl⟩, fun base hK hNs hTB => ?_⟩
  · skip
    rcases List.mem_cons.mp hp with z | hp
    · rw [z]; simp
    · skip
      rcases List.mem_cons.mp hp with z | hp
      · rw [z]; simp
      · skip
        rw [(List.mem_singleton.mp hp)]; simp
  · skip
    rcases List.mem_cons.mp hp with z | hp
    · rw [z]; exact nio
    · skip
      rcases List.mem_cons.mp hp with z | hp
      · rw [z]; exact ndr
      · skip
        rw [(List.mem_singleton.mp hp)]; exact nla
  · skip
    rcases List.mem_cons.mp hp with z | hp
    · rw [z]; exact Cio
    · skip
      rcases List.mem_cons.mp hp with z | hp
      · rw [z]; exact Cdr
      · skip
        rw [(List.mem_singleton.mp hp)]; exact Cla
  · skip
    rcases List.mem_cons.mp hp with z | hp
    · rw [z]; exact tabS0 (hH (ccio, Pio) (by simp))
    · skip
      rcases List.mem_cons.mp hp with z | hp
      · rw [z]; exact tabS0 (hH (ccdr, Pdr) (by simp))
      · skip
        rw [(List.mem_singleton.mp hp)]; exact tabS0 (hH (ccla, Pla) (by simp))
  have TBio : TabB base mg ccio Pio := hTB (ccio, Pio) (by simp)
  have TBdr : TabB base mg ccdr Pdr := hTB (ccdr, Pdr) (by simp)
  have TBla : TabB base mg ccla Pla := hTB (ccla, Pla) (by simp)
  have Gin := ok_isNumber (P := l.prog) (w := w) (base := base) Fin M
  have Gnm := ok_isName (P := l.prog) (w := w) (base := base) Fnm M
  have Gic := ok_isCar (P := l.prog) (w := w) (base := base) Bic M Bnm Bin Gnm Gin
  have Gcc := ok_checkCars (P := l.prog) (w := w) (base := base) Bcc M Bic Gic
  have Gio := ok_inOrder (P := l.prog) (w := w) (base := base) Bio M TBio mio uio
  have Gfo := ok_follow (P := l.prog) (w := w) (base := base) Bfo
  have Gis := ok_isSection (P := l.prog) (w := w) (base := base) Bis M Bin Gin
  have Gru := ok_runs (P := l.prog) (w := w) (base := base) Bru RR
  have Guo := ok_unitsOf (P := l.prog) (w := w) (base := base) Buo RR
  have GRi := ok_rInit (P := l.prog) (w := w) (base := base) FRi M RR Bis Gis Buo Guo
  have GRo := ok_ofUnits (P := l.prog) (w := w) (base := base) FRo M RR MR Bru Gru GRi
  have GRs := ok_rSections (P := l.prog) (w := w) (base := base) FRs RR
  have Gdv := ok_driveAll (P := l.prog) (w := w) (base := base) (Pt:=Pio) Fdv M Bio Bfo Gio Gfo
  have GDi := ok_dInit (P := l.prog) (w := w) (base := base) MDi M R RR Bcc Bdv PORs bRs Gcc Gdv GRs
  have GDh := ok_has (P := l.prog) (w := w) (base := base) FDh M R
  have GDc := ok_checkCar (P := l.prog) (w := w) (base := base) MDc aDh iDh bDh GDh
  have GDp := ok_checkPlace (P := l.prog) (w := w) (base := base) MDp M R Bin Gin
  have GDg := ok_get (P := l.prog) (w := w) (base := base) FDg M R MDc GDc
  have GDa := ok_callD (P := l.prog) (w := w) (base := base) FDa M R MDc GDc MDp GDp
  have LT : LivT K CL := ⟨C3, nL_states, nL_undone, nL_in_block, nL_kept_states, nL_kept_undone⟩
  have OCU : OexC K c0 := ⟨⟨_, _, _, _, _, _, _, _, _, _, _, _, _, _, _, xU, rfl⟩, saU, r0sb, d0t, kU⟩
  have FUi := fun_mk (st := sUnknownCarInit) lUi cUi kUi
  have bUi := FUi.binds (ps := ["self", "name"]) fun _ _ _ _ _ _ us hl => match us, hl with | [_, _], _ => rfl
  have GUi := ok_uInit (P := l.prog) (w := w) (base := base) (mg := mg) FUi OCU r0nm
  have EU : ErrO l.prog w K mg base "UnknownCar" c0 := ⟨OCU, PySem.W.mg_of X G e0, ⟨_, _, _, aUi, tUi, bUi, GUi⟩⟩
  have OCO : OexC K c4 := ⟨⟨_, _, _, _, _, _, _, _, _, _, _, _, _, _, _, xO, rfl⟩, saO, r4sb, d4t, kO⟩
  have FOi := fun_mk (st := sInvalidOperationInit) lOi cOi kOi
  have bOi := FOi.binds (ps := ["self", "index"]) fun _ _ _ _ _ _ us hl => match us, hl with | [_, _], _ => rfl
  have GOi := ok_oInit (P := l.prog) (w := w) (base := base) (mg := mg) FOi OCO r4ix
  have EO : ErrF l.prog w K mg base "InvalidOperation" "index" c4 := ⟨OCO, PySem.W.mg_of X G e4, ⟨_, _, _, aOi, tOi, bOi, GOi⟩⟩
  have EN : ErrT K mg "InvalidName" c2 := ⟨n2q, PySem.W.mg_of X G e2, n2k, r2sb, d2t⟩
  have EM : ErrT K mg "TooManyCars" c5 := ⟨n5q, PySem.W.mg_of X G e5, n5k, r5sb, d5t⟩
  have GknX := ok_knownX (P := l.prog) (w := w) (base := base) Fkn EU
  have GcwX := ok_newNameX (P := l.prog) (w := w) (base := base) Fcw EN Bnm Gnm
  have Gai := ok_arrs (P := l.prog) (w := w) (base := base) Fai R MI bDi GDi ⟨aDa, iDa, jDa⟩ bDa1 vDa GDa
  have Gch := ok_changes (P := l.prog) (w := w) (base := base) (mg := mg) Fch
  have Gjo := ok_join (P := l.prog) (w := w) (base := base) (CU := c0) Fjo M EM Bcw GcwX Bin Gin Bai Gai
  have Gre := ok_remove (P := l.prog) (w := w) (base := base) (CNm := c2) (CMy := c5) Fre M Bkn GknX Bai Gai Bch Gch
  have Gsk := ok_setK (P := l.prog) (w := w) (base := base) (CNm := c2) (CMy := c5) (CU := c0) Fsk M RR Bin Gin MR GRi PORs bRs GRs Bai Gai Bch Gch
  have O : OpT K w mg ap gp fjo fre fsk := ⟨PySem.W.mg_of X G oA, PySem.W.mg_of X G oG, oJa, oRa, oSa, oJg, oRg, oSg, oM⟩
  have Gop := ok_isOp (P := l.prog) (w := w) (base := base) Fop M O
  have Gex := ok_exec (P := l.prog) (w := w) (base := base) Fex M O EO Bop Gop Bjo Gjo Bre Gre Bsk Gsk
  have GLi := ok_lInit (P := l.prog) (w := w) (base := base) (CR := CR) (mg := mg) FLi LT
  have GLp := ok_apply (P := l.prog) (w := w) (base := base) FLp LT Bex Gex
  have GLj := ok_mJoin (P := l.prog) (w := w) (base := base) FLj LT ⟨aLp, iLp, kLp⟩ GLp
  have GLr := ok_mRem (P := l.prog) (w := w) (base := base) FLr LT ⟨aLp, iLp, kLp⟩ GLp
  have GLk := ok_mKind (P := l.prog) (w := w) (base := base) FLk LT ⟨aLp, iLp, kLp⟩ GLp
  have GLb := ok_noBlock (P := l.prog) (w := w) (base := base) (CR := CR) (mg := mg) FLb LT
  have GLa := ok_after (P := l.prog) (w := w) (base := base) FLa LT MLb GLb Bex Gex Bai Gai
  have GLz := ok_replay (P := l.prog) (w := w) (base := base) FLz LT MI3 bLi GLi ⟨⟨aLp, iLp, kLp⟩, bgf, btk, by decide +kernel, bfi⟩ GLp
  have GLu := ok_undo (P := l.prog) (w := w) (base := base) (CR := CR) (T := T) FLu M LT
  have GLy := ok_redo (P := l.prog) (w := w) (base := base) (CR := CR) (T := T) FLy M LT
  have GLo := ok_pRoad (P := l.prog) (w := w) (base := base) (CR := CR) (mg := mg) FLo LT
  have GLc := ok_pCars (P := l.prog) (w := w) (base := base) (CR := CR) (mg := mg) FLc LT
  have GLn := ok_lLen (P := l.prog) (w := w) (base := base) (CR := CR) FLn M LT
  have GLd := ok_lDrive (P := l.prog) (w := w) (base := base) (CR := CR) FLd LT R MI bDi GDi
  have GLh := ok_lHist (P := l.prog) (w := w) (base := base) (CR := CR) (mg := mg) FLh LT
  have GLx := ok_lHas (P := l.prog) (w := w) (base := base) (CR := CR) (mg := mg) FLx LT
  have Gta := ok_taken (P := l.prog) (w := w) (base := base) Fta M
  have Guu := ok_units (P := l.prog) (w := w) (base := base) Fuu M Bta Gta
  have Gse := ok_sections (P := l.prog) (w := w) (base := base) Fse M
  have Gdr := ok_driven (P := l.prog) (w := w) (base := base) Bdr M TBdr mdr udr
  have Gle := ok_less (P := l.prog) (w := w) (base := base) Fle M
  have Gde := ok_deed (P := l.prog) (w := w) (base := base) Fde M Bta Gta
  have Gdo := ok_does (P := l.prog) (w := w) (base := base) (kD := 0) Fdo M Ble Gle Bdr Gdr
  have Gas := ok_asked (P := l.prog) (w := w) (base := base) Fas LT MLj GLj MLr GLr MLk GLk
  have Gtl := ok_told (P := l.prog) (w := w) (base := base) Ftl M LT ⟨pgR, hdR, poR, saR⟩ POLo bLo GLo POLc bLc GLc PORs bRs GRs aLn iLn bLn GLn
  have WT : Teller K mg "_law_raised" "_law_work" fto nRaised (defBody sRaised) (defScope sRaised) cdto := ⟨PySem.W.mg_of X G ato, kto, ⟨_, _, _, _, _, _, _, _, _, _, lto, Bto.bd⟩, cto, scRaised, rfl, .inl rfl⟩
  exact ok_law (C := C) Fla TBla mla ula ⟨M, LT, ⟨PySem.W.mg_of X G eE, PySem.W.mg_of X G e0, PySem.W.mg_of X G e1, PySem.W.mg_of X G e2, PySem.W.mg_of X G e3, PySem.W.mg_of X G e4, PySem.W.mg_of X G e5, PySem.W.mg_none_of X G z_ValueError⟩, ⟨⟨r0cl, r0ga, r0gg, r0sb, r0hd, r0ct, qhn, qht, r0mr, r0ix, r0nm⟩, PySem.W.exm_ref dEs dEh dEt r0xe, kit_refE r0k0 d0c d0t r0k0, kit_refE r0k0 d1c d1t r0k1, kit_refE r0k0 d2c d2t r0k2, kit_refE r0k0 d3c d3t r0k3, kit_refE r0k0 d4c d4t r0k4, kit_refE r0k0 d5c d5t r0k5, kit_tyE (by decide +kernel) r0kv⟩, ⟨⟨r2cl, r2ga, r2gg, r2sb, r2hd, r2ct, qhn, qht, r2mr, r2ix, r2nm⟩, PySem.W.exm_ref dEs dEh dEt r2xe, kit_refE r2k2 d0c d0t r2k0, kit_refE r2k2 d1c d1t r2k1, kit_refE r2k2 d2c d2t r2k2, kit_refE r2k2 d3c d3t r2k3, kit_refE r2k2 d4c d4t r2k4, kit_refE r2k2 d5c d5t r2k5, kit_tyE (by decide +kernel) r2kv⟩, ⟨⟨r5cl, r5ga, r5gg, r5sb, r5hd, r5ct, qhn, qht, r5mr, r5ix, r5nm⟩, PySem.W.exm_ref dEs dEh dEt r5xe, kit_refE r5k5 d0c d0t r5k0, kit_refE r5k5 d1c d1t r5k1, kit_refE r5k5 d2c d2t r5k2, kit_refE r5k5 d3c d3t r5k3, kit_refE r5k5 d4c d4t r5k4, kit_refE r5k5 d5c d5t r5k5, kit_tyE (by decide +kernel) r5kv⟩, ⟨_, _, Bta, Gta⟩, ⟨_, _, Buu, Guu⟩, ⟨_, _, Bse, Gse⟩, ⟨PySem.W.mg_of X G aR, ⟨cr1, cr2⟩, ⟨aRo, ⟨_, rRo⟩, fRo'⟩, _, bRo, GRo⟩, ⟨_, _, MI3, PySem.W.mg_of X G aX3, bLi, GLi⟩, ⟨_, _, Bde, Gde⟩, ⟨_, _, Bdo, Gdo⟩, ⟨_, _, Bas, Gas⟩, ⟨_, _, Btl, Gtl⟩, ⟨_, _, MLu, GLu⟩, ⟨_, _, MLy, GLy⟩, ⟨_, POLh, bLh, GLh⟩, ⟨_, ⟨aLp, iLp, kLp⟩, GLp⟩, ⟨_, ⟨aLa, iLa, kLa⟩, GLa⟩, ⟨⟨cr1CL, cr2CL⟩, ⟨aLz, ⟨_, rLz⟩, jLz⟩, _, bLz, GLz⟩, ⟨⟨r4cl, r4ga, r4gg, r4sb, r4hd, r4ct, qhn, qht, r4mr, r4ix, r4nm⟩, PySem.W.exm_ref dEs dEh dEt r4xe, kit_refE r4k4 d0c d0t r4k0, kit_refE r4k4 d1c d1t r4k1, kit_refE r4k4 d2c d2t r4k2, kit_refE r4k4 d3c d3t r4k3, kit_refE r4k4 d4c d4t r4k4, kit_refE r4k4 d5c d5t r4k5, kit_tyE (by decide +kernel) r4kv⟩, ⟨_, _, WT⟩⟩
end Sl

open PySem PySem.W PyProof.Rows
set_option maxRecDepth 100000 in
set_option maxHeartbeats 0 in
theorem PySem.Challenge.cw_slowleaders_k66_whole_all_undone_and_don_holds : PySem.Challenge.rw_slowleaders_k66_whole_all_undone_and_don.Holds := by
  w_on; o_law; k_head; (case hw => w_witness2)
  k_fill
  refine LamX.walk_ofTs (l := PySem.Challenge.rw_slowleaders_k66_whole_all_undone_and_don) (n := 63) (k := 15) (x := "_law_script") (CX := fun _ => L2.CX0) rfl (by decide) rfl ⟨rfl, by decide, by decide⟩ (fun w h Y => PySem.W.km_in_of Y) ?F (fun _ _ _ _ _ z => z)
  case F =>
    intro w mg fa h Y KX G hmg
    have hT8 := km_tabs_of Y
    refine' Sl.all_mk (Pio := 239) (Pdr := 704) (Pla := 745) (mc := PySem.Value.type "type") KX G hmg ?aC ?aR ?aX3 ?ain ?lin ?cin ?kin ?anm ?lnm ?cnm ?knm ?aic ?lic ?cic ?kic ?acc ?lcc ?ccc ?kcc ?akn ?lkn ?ckn ?kkn ?acw ?lcw ?ccw ?kcw ?aio ?lio ?cio ?kio ?hio ?nio ?afo ?lfo ?cfo ?kfo ?adv ?ldv ?cdv ?kdv ?ais ?lis ?cis ?kis ?auo ?luo ?cuo ?kuo ?aru ?lru ?cru ?kru ?aai ?lai ?cai ?kai ?ach ?lch ?cch ?kch ?ajo ?ljo ?cjo ?kjo ?are ?lre ?cre ?kre ?ask ?lsk ?csk ?ksk ?aop ?lop ?cop ?kop ?aex ?lex ?cex ?kex ?ata ?lta ?cta ?kta ?auu ?luu ?cuu ?kuu ?ase ?lse ?cse ?kse ?adr ?ldr ?cdr ?kdr ?hdr ?ndr ?ale ?lle ?cle ?kle ?ato ?lto ?cto ?kto ?ade ?lde ?cde ?kde ?ado ?ldo ?cdo ?kdo ?aas ?las ?cas ?kas ?atl ?ltl ?ctl ?ktl ?ala ?lla ?cla ?kla ?hla ?nla ?aDi ?iDi ?lDi ?cDi ?kDi ?aDc ?iDc ?lDc ?cDc ?kDc ?aDp ?iDp ?lDp ?cDp ?kDp ?aDg ?iDg ?lDg ?cDg ?kDg ?aDa ?iDa ?lDa ?cDa ?kDa ?lT ?aDh ?iDh ?lDh ?cDh ?kDh ?aRi ?iRi ?lRi ?cRi ?kRi ?aLi ?iLi ?lLi ?cLi ?kLi ?aLj ?iLj ?lLj ?cLj ?kLj ?aLr ?iLr ?lLr ?cLr ?kLr ?aLk ?iLk ?lLk ?cLk ?kLk ?aLp ?iLp ?lLp ?cLp ?kLp ?aLb ?iLb ?lLb ?cLb ?kLb ?aLa ?iLa ?lLa ?cLa ?kLa ?aLu ?iLu ?lLu ?cLu ?kLu ?aLy ?iLy ?lLy ?cLy ?kLy ?aLd ?iLd ?lLd ?cLd ?kLd ?aLx ?iLx ?lLx ?cLx ?kLx ?aLn ?iLn ?lLn ?cLn ?kLn ?aLo ?gLo ?tLo ?rLo ?lLo ?cLo ?kLo ?aLc ?gLc ?tLc ?rLc ?lLc ?cLc ?kLc ?aLh ?gLh ?tLh ?rLh ?lLh ?cLh ?kLh ?aRo ?rRo ?lRo ?cRo ?kRo ?fRo' ?cr1 ?cr2 ?aLz ?rLz ?lLz ?cLz ?kLz ?jLz ?cr1CL ?cr2CL ?aRs ?gRs ?tRs ?rRs ?lRs ?cRs ?kRs ?jDg ?jDa ?pgC ?hdC ?poC ?saC ?mkC ?kcC ?pgR ?hdR ?poR ?saR ?mkR ?kcR ?pgL ?hdL ?poL ?saL ?mkL ?kcL ?nC_sections ?nC_paces ?nC_ticks ?nC_orders ?nC_leaders ?nL_states ?nL_undone ?nL_in_block ?nL_kept_states ?nL_kept_undone ?nR_sections ?nR_units ?z_isinstance ?z_int ?z_bool ?z_str ?z_tuple ?z_len ?z_all ?z_enumerate ?z_sorted ?z_list ?z_range ?z_sum ?z_ValueError ?v0 ?v1 ?v2 ?v3 ?v4 ?v5 ?aL ?aK ?dlN ?dlW ?dkN ?dkW ?kM ?eE ?e0 ?e1 ?e2 ?e3 ?e4 ?e5 ?dEs ?dEh ?dEt ?d0c ?d0t ?d1c ?d1t ?d2c ?d2t ?d3c ?d3t ?d4c ?d4t ?d5c ?d5t ?r0cl ?r0ga ?r0gg ?r0sb ?r0hd ?r0ct ?r0mr ?r0ix ?r0nm ?r0xe ?r0kv ?r0k0 ?r0k1 ?r0k2 ?r0k3 ?r0k4 ?r0k5 ?r2cl ?r2ga ?r2gg ?r2sb ?r2hd ?r2ct ?r2mr ?r2ix ?r2nm ?r2xe ?r2kv ?r2k0 ?r2k1 ?r2k2 ?r2k3 ?r2k4 ?r2k5 ?r4cl ?r4ga ?r4gg ?r4sb ?r4hd ?r4ct ?r4mr ?r4ix ?r4nm ?r4xe ?r4kv ?r4k0 ?r4k1 ?r4k2 ?r4k3 ?r4k4 ?r4k5 ?r5cl ?r5ga ?r5gg ?r5sb ?r5hd ?r5ct ?r5mr ?r5ix ?r5nm ?r5xe ?r5kv ?r5k0 ?r5k1 ?r5k2 ?r5k3 ?r5k4 ?r5k5 ?xU ?saU ?kU ?aUi ?tUi ?lUi ?cUi ?kUi ?xO ?saO ?kO ?aOi ?tOi ?lOi ?cOi ?kOi ?n2q ?n2k ?n5q ?n5k ?qhn ?qht ?bgf ?btk ?bfi ?oA ?oG ?oJa ?oRa ?oSa ?oJg ?oRg ?oSg ?oM ?neP01 ?neP02 ?neP12 ?hT
    (case aC => first | k_is | k_exc | kx_is)
    (case aR => first | k_is | k_exc | kx_is)
    (case aX3 => first | k_is | k_exc | kx_is)
    (case ain => first | k_is | k_exc | kx_is)
    (case lin => first | k_is | k_exc | kx_is)
    (case cin => first | k_is | k_exc | kx_is)
    (case kin => first | k_is | k_exc | kx_is)
    (case anm => first | k_is | k_exc | kx_is)
    (case lnm => first | k_is | k_exc | kx_is)
    (case cnm => first | k_is | k_exc | kx_is)
    (case knm => first | k_is | k_exc | kx_is)
    (case aic => first | k_is | k_exc | kx_is)
    (case lic => first | k_is | k_exc | kx_is)
    (case cic => first | k_is | k_exc | kx_is)
    (case kic => first | k_is | k_exc | kx_is)
    (case acc => first | k_is | k_exc | kx_is)
    (case lcc => first | k_is | k_exc | kx_is)
    (case ccc => first | k_is | k_exc | kx_is)
    (case kcc => first | k_is | k_exc | kx_is)
    (case akn => first | k_is | k_exc | kx_is)
    (case lkn => first | k_is | k_exc | kx_is)
    (case ckn => first | k_is | k_exc | kx_is)
    (case kkn => first | k_is | k_exc | kx_is)
    (case acw => first | k_is | k_exc | kx_is)
    (case lcw => first | k_is | k_exc | kx_is)
    (case ccw => first | k_is | k_exc | kx_is)
    (case kcw => first | k_is | k_exc | kx_is)
    (case aio => first | k_is | k_exc | kx_is)
    (case lio => first | k_is | k_exc | kx_is)
    (case cio => first | k_is | k_exc | kx_is)
    (case kio => first | k_is | k_exc | kx_is)
    (case hio => first | kernel_rfl | k_is)
    (case nio => first | kernel_rfl | k_is)
    (case afo => first | k_is | k_exc | kx_is)
    (case lfo => first | k_is | k_exc | kx_is)
    (case cfo => first | k_is | k_exc | kx_is)
    (case kfo => first | k_is | k_exc | kx_is)
    (case adv => first | k_is | k_exc | kx_is)
    (case ldv => first | k_is | k_exc | kx_is)
    (case cdv => first | k_is | k_exc | kx_is)
    (case kdv => first | k_is | k_exc | kx_is)
    (case ais => first | k_is | k_exc | kx_is)
    (case lis => first | k_is | k_exc | kx_is)
    (case cis => first | k_is | k_exc | kx_is)
    (case kis => first | k_is | k_exc | kx_is)
    (case auo => first | k_is | k_exc | kx_is)
    (case luo => first | k_is | k_exc | kx_is)
    (case cuo => first | k_is | k_exc | kx_is)
    (case kuo => first | k_is | k_exc | kx_is)
    (case aru => first | k_is | k_exc | kx_is)
    (case lru => first | k_is | k_exc | kx_is)
    (case cru => first | k_is | k_exc | kx_is)
    (case kru => first | k_is | k_exc | kx_is)
    (case aai => first | k_is | k_exc | kx_is)
    (case lai => first | k_is | k_exc | kx_is)
    (case cai => first | k_is | k_exc | kx_is)
    (case kai => first | k_is | k_exc | kx_is)
    (case ach => first | k_is | k_exc | kx_is)
    (case lch => first | k_is | k_exc | kx_is)
    (case cch => first | k_is | k_exc | kx_is)
    (case kch => first | k_is | k_exc | kx_is)
    (case ajo => first | k_is | k_exc | kx_is)
    (case ljo => first | k_is | k_exc | kx_is)
    (case cjo => first | k_is | k_exc | kx_is)
    (case kjo => first | k_is | k_exc | kx_is)
    (case are => first | k_is | k_exc | kx_is)
    (case lre => first | k_is | k_exc | kx_is)
    (case cre => first | k_is | k_exc | kx_is)
    (case kre => first | k_is | k_exc | kx_is)
    (case ask => first | k_is | k_exc | kx_is)
    (case lsk => first | k_is | k_exc | kx_is)
    (case csk => first | k_is | k_exc | kx_is)
    (case ksk => first | k_is | k_exc | kx_is)
    (case aop => first | k_is | k_exc | kx_is)
    (case lop => first | k_is | k_exc | kx_is)
    (case cop => first | k_is | k_exc | kx_is)
    (case kop => first | k_is | k_exc | kx_is)
    (case aex => first | k_is | k_exc | kx_is)
    (case lex => first | k_is | k_exc | kx_is)
    (case cex => first | k_is | k_exc | kx_is)
    (case kex => first | k_is | k_exc | kx_is)
    (case ata => first | k_is | k_exc | kx_is)
    (case lta => first | k_is | k_exc | kx_is)
    (case cta => first | k_is | k_exc | kx_is)
    (case kta => first | k_is | k_exc | kx_is)
    (case auu => first | k_is | k_exc | kx_is)
    (case luu => first | k_is | k_exc | kx_is)
    (case cuu => first | k_is | k_exc | kx_is)
    (case kuu => first | k_is | k_exc | kx_is)
    (case ase => first | k_is | k_exc | kx_is)
    (case lse => first | k_is | k_exc | kx_is)
    (case cse => first | k_is | k_exc | kx_is)
    (case kse => first | k_is | k_exc | kx_is)
    (case adr => first | k_is | k_exc | kx_is)
    (case ldr => first | k_is | k_exc | kx_is)
    (case cdr => first | k_is | k_exc | kx_is)
    (case kdr => first | k_is | k_exc | kx_is)
    (case hdr => first | kernel_rfl | k_is)
    (case ndr => first | kernel_rfl | k_is)
    (case ale => first | k_is | k_exc | kx_is)
    (case lle => first | k_is | k_exc | kx_is)
    (case cle => first | k_is | k_exc | kx_is)
    (case kle => first | k_is | k_exc | kx_is)
    (case ato => first | k_is | k_exc | kx_is)
    (case lto => first | k_is | k_exc | kx_is)
    (case cto => first | k_is | k_exc | kx_is)
    (case kto => first | k_is | k_exc | kx_is)
    (case ade => first | k_is | k_exc | kx_is)
    (case lde => first | k_is | k_exc | kx_is)
    (case cde => first | k_is | k_exc | kx_is)
    (case kde => first | k_is | k_exc | kx_is)
    (case ado => first | k_is | k_exc | kx_is)
    (case ldo => first | k_is | k_exc | kx_is)
    (case cdo => first | k_is | k_exc | kx_is)
    (case kdo => first | k_is | k_exc | kx_is)
    (case aas => first | k_is | k_exc | kx_is)
    (case las => first | k_is | k_exc | kx_is)
    (case cas => first | k_is | k_exc | kx_is)
    (case kas => first | k_is | k_exc | kx_is)
    (case atl => first | k_is | k_exc | kx_is)
    (case ltl => first | k_is | k_exc | kx_is)
    (case ctl => first | k_is | k_exc | kx_is)
    (case ktl => first | k_is | k_exc | kx_is)
    (case ala => first | k_is | k_exc | kx_is)
    (case lla => first | k_is | k_exc | kx_is)
    (case cla => first | k_is | k_exc | kx_is)
    (case kla => first | k_is | k_exc | kx_is)
    (case hla => first | kernel_rfl | k_is)
    (case nla => first | kernel_rfl | k_is)
    (case aDi => first | k_is | k_exc | kx_is)
    (case iDi => first | k_is | k_exc | kx_is)
    (case lDi => first | k_is | k_exc | kx_is)
    (case cDi => first | k_is | k_exc | kx_is)
    (case kDi => first | k_is | k_exc | kx_is)
    (case aDc => first | k_is | k_exc | kx_is)
    (case iDc => first | k_is | k_exc | kx_is)
    (case lDc => first | k_is | k_exc | kx_is)
    (case cDc => first | k_is | k_exc | kx_is)
    (case kDc => first | k_is | k_exc | kx_is)
    (case aDp => first | k_is | k_exc | kx_is)
    (case iDp => first | k_is | k_exc | kx_is)
    (case lDp => first | k_is | k_exc | kx_is)
    (case cDp => first | k_is | k_exc | kx_is)
    (case kDp => first | k_is | k_exc | kx_is)
    (case aDg => first | k_is | k_exc | kx_is)
    (case iDg => first | k_is | k_exc | kx_is)
    (case lDg => first | k_is | k_exc | kx_is)
    (case cDg => first | k_is | k_exc | kx_is)
    (case kDg => first | k_is | k_exc | kx_is)
    (case aDa => first | k_is | k_exc | kx_is)
    (case iDa => first | k_is | k_exc | kx_is)
    (case lDa => first | k_is | k_exc | kx_is)
    (case cDa => first | k_is | k_exc | kx_is)
    (case kDa => first | k_is | k_exc | kx_is)
    (case lT => first | k_is | k_exc | kx_is)
    (case aDh => first | k_is | k_exc | kx_is)
    (case iDh => first | k_is | k_exc | kx_is)
    (case lDh => first | k_is | k_exc | kx_is)
    (case cDh => first | k_is | k_exc | kx_is)
    (case kDh => first | k_is | k_exc | kx_is)
    (case aRi => first | k_is | k_exc | kx_is)
    (case iRi => first | k_is | k_exc | kx_is)
    (case lRi => first | k_is | k_exc | kx_is)
    (case cRi => first | k_is | k_exc | kx_is)
    (case kRi => first | k_is | k_exc | kx_is)
    (case aLi => first | k_is | k_exc | kx_is)
    (case iLi => first | k_is | k_exc | kx_is)
    (case lLi => first | k_is | k_exc | kx_is)
    (case cLi => first | k_is | k_exc | kx_is)
    (case kLi => first | k_is | k_exc | kx_is)
    (case aLj => first | k_is | k_exc | kx_is)
    (case iLj => first | k_is | k_exc | kx_is)
    (case lLj => first | k_is | k_exc | kx_is)
    (case cLj => first | k_is | k_exc | kx_is)
    (case kLj => first | k_is | k_exc | kx_is)
    (case aLr => first | k_is | k_exc | kx_is)
    (case iLr => first | k_is | k_exc | kx_is)
    (case lLr => first | k_is | k_exc | kx_is)
    (case cLr => first | k_is | k_exc | kx_is)
    (case kLr => first | k_is | k_exc | kx_is)
    (case aLk => first | k_is | k_exc | kx_is)
    (case iLk => first | k_is | k_exc | kx_is)
    (case lLk => first | k_is | k_exc | kx_is)
    (case cLk => first | k_is | k_exc | kx_is)
    (case kLk => first | k_is | k_exc | kx_is)
    (case aLp => first | k_is | k_exc | kx_is)
    (case iLp => first | k_is | k_exc | kx_is)
    (case lLp => first | k_is | k_exc | kx_is)
    (case cLp => first | k_is | k_exc | kx_is)
    (case kLp => first | k_is | k_exc | kx_is)
    (case aLb => first | k_is | k_exc | kx_is)
    (case iLb => first | k_is | k_exc | kx_is)
    (case lLb => first | k_is | k_exc | kx_is)
    (case cLb => first | k_is | k_exc | kx_is)
    (case kLb => first | k_is | k_exc | kx_is)
    (case aLa => first | k_is | k_exc | kx_is)
    (case iLa => first | k_is | k_exc | kx_is)
    (case lLa => first | k_is | k_exc | kx_is)
    (case cLa => first | k_is | k_exc | kx_is)
    (case kLa => first | k_is | k_exc | kx_is)
    (case aLu => first | k_is | k_exc | kx_is)
    (case iLu => first | k_is | k_exc | kx_is)
    (case lLu => first | k_is | k_exc | kx_is)
    (case cLu => first | k_is | k_exc | kx_is)
    (case kLu => first | k_is | k_exc | kx_is)
    (case aLy => first | k_is | k_exc | kx_is)
    (case iLy => first | k_is | k_exc | kx_is)
    (case lLy => first | k_is | k_exc | kx_is)
    (case cLy => first | k_is | k_exc | kx_is)
    (case kLy => first | k_is | k_exc | kx_is)
    (case aLd => first | k_is | k_exc | kx_is)
    (case iLd => first | k_is | k_exc | kx_is)
    (case lLd => first | k_is | k_exc | kx_is)
    (case cLd => first | k_is | k_exc | kx_is)
    (case kLd => first | k_is | k_exc | kx_is)
    (case aLx => first | k_is | k_exc | kx_is)
    (case iLx => first | k_is | k_exc | kx_is)
    (case lLx => first | k_is | k_exc | kx_is)
    (case cLx => first | k_is | k_exc | kx_is)
    (case kLx => first | k_is | k_exc | kx_is)
    (case aLn => first | k_is | k_exc | kx_is)
    (case iLn => first | k_is | k_exc | kx_is)
    (case lLn => first | k_is | k_exc | kx_is)
    (case cLn => first | k_is | k_exc | kx_is)
    (case kLn => first | k_is | k_exc | kx_is)
    (case aLo => first | k_is | k_exc | kx_is)
    (case gLo => first | k_is | k_exc | kx_is)
    (case tLo => first | k_is | k_exc | kx_is)
    (case rLo => first | k_is | k_exc | kx_is)
    (case lLo => first | k_is | k_exc | kx_is)
    (case cLo => first | k_is | k_exc | kx_is)
    (case kLo => first | k_is | k_exc | kx_is)
    (case aLc => first | k_is | k_exc | kx_is)
    (case gLc => first | k_is | k_exc | kx_is)
    (case tLc => first | k_is | k_exc | kx_is)
    (case rLc => first | k_is | k_exc | kx_is)
    (case lLc => first | k_is | k_exc | kx_is)
    (case cLc => first | k_is | k_exc | kx_is)
    (case kLc => first | k_is | k_exc | kx_is)
    (case aLh => first | k_is | k_exc | kx_is)
    (case gLh => first | k_is | k_exc | kx_is)
    (case tLh => first | k_is | k_exc | kx_is)
    (case rLh => first | k_is | k_exc | kx_is)
    (case lLh => first | k_is | k_exc | kx_is)
    (case cLh => first | k_is | k_exc | kx_is)
    (case kLh => first | k_is | k_exc | kx_is)
    (case aRo => first | k_is | k_exc | kx_is)
    (case rRo => first | k_is | k_exc | kx_is)
    (case lRo => first | k_is | k_exc | kx_is)
    (case cRo => first | k_is | k_exc | kx_is)
    (case kRo => first | k_is | k_exc | kx_is)
    (case fRo' => first | k_is | k_exc | kx_is)
    (case cr1 => first | k_is | k_exc | kx_is)
    (case cr2 => first | k_is | k_exc | kx_is)
    (case aLz => first | k_is | k_exc | kx_is)
    (case rLz => first | k_is | k_exc | kx_is)
    (case lLz => first | k_is | k_exc | kx_is)
    (case cLz => first | k_is | k_exc | kx_is)
    (case kLz => first | k_is | k_exc | kx_is)
    (case jLz => first | k_is | k_exc | kx_is)
    (case cr1CL => first | k_is | k_exc | kx_is)
    (case cr2CL => first | k_is | k_exc | kx_is)
    (case aRs => first | k_is | k_exc | kx_is)
    (case gRs => first | k_is | k_exc | kx_is)
    (case tRs => first | k_is | k_exc | kx_is)
    (case rRs => first | k_is | k_exc | kx_is)
    (case lRs => first | k_is | k_exc | kx_is)
    (case cRs => first | k_is | k_exc | kx_is)
    (case kRs => first | k_is | k_exc | kx_is)
    (case jDg => first | k_is | k_exc | kx_is)
    (case jDa => first | k_is | k_exc | kx_is)
    (case pgC => first | k_is | k_exc | kx_is)
    (case hdC => first | k_is | k_exc | kx_is)
    (case poC => first | k_is | k_exc | kx_is)
    (case saC => first | k_is | k_exc | kx_is)
    (case mkC => first | k_is | k_exc | kx_is)
    (case kcC => first | k_is | k_exc | kx_is)
    (case pgR => first | k_is | k_exc | kx_is)
    (case hdR => first | k_is | k_exc | kx_is)
    (case poR => first | k_is | k_exc | kx_is)
    (case saR => first | k_is | k_exc | kx_is)
    (case mkR => first | k_is | k_exc | kx_is)
    (case kcR => first | k_is | k_exc | kx_is)
    (case pgL => first | k_is | k_exc | kx_is)
    (case hdL => first | k_is | k_exc | kx_is)
    (case poL => first | k_is | k_exc | kx_is)
    (case saL => first | k_is | k_exc | kx_is)
    (case mkL => first | k_is | k_exc | kx_is)
    (case kcL => first | k_is | k_exc | kx_is)
    (case nC_sections => first | k_is | k_exc | kx_is)
    (case nC_paces => first | k_is | k_exc | kx_is)
    (case nC_ticks => first | k_is | k_exc | kx_is)
    (case nC_orders => first | k_is | k_exc | kx_is)
    (case nC_leaders => first | k_is | k_exc | kx_is)
    (case nL_states => first | k_is | k_exc | kx_is)
    (case nL_undone => first | k_is | k_exc | kx_is)
    (case nL_in_block => first | k_is | k_exc | kx_is)
    (case nL_kept_states => first | k_is | k_exc | kx_is)
    (case nL_kept_undone => first | k_is | k_exc | kx_is)
    (case nR_sections => first | k_is | k_exc | kx_is)
    (case nR_units => first | k_is | k_exc | kx_is)
    (case z_isinstance => first | k_is | k_exc | kx_is)
    (case z_int => first | k_is | k_exc | kx_is)
    (case z_bool => first | k_is | k_exc | kx_is)
    (case z_str => first | k_is | k_exc | kx_is)
    (case z_tuple => first | k_is | k_exc | kx_is)
    (case z_len => first | k_is | k_exc | kx_is)
    (case z_all => first | k_is | k_exc | kx_is)
    (case z_enumerate => first | k_is | k_exc | kx_is)
    (case z_sorted => first | k_is | k_exc | kx_is)
    (case z_list => first | k_is | k_exc | kx_is)
    (case z_range => first | k_is | k_exc | kx_is)
    (case z_sum => first | k_is | k_exc | kx_is)
    (case z_ValueError => first | k_is | k_exc | kx_is)
    (case v0 => first | k_is | k_exc | kx_is)
    (case v1 => first | k_is | k_exc | kx_is)
    (case v2 => first | k_is | k_exc | kx_is)
    (case v3 => first | k_is | k_exc | kx_is)
    (case v4 => first | k_is | k_exc | kx_is)
    (case v5 => first | k_is | k_exc | kx_is)
    (case aL => first | k_is | k_exc | kx_is)
    (case aK => first | k_is | k_exc | kx_is)
    (case dlN => exact ⟨_, _, _, by k_is, by (first | exact ⟨⟨_, _, rfl, rfl⟩, ⟨_, _, rfl, rfl⟩, trivial⟩ | (constructor; exact ⟨_, _, rfl, rfl⟩; constructor; exact ⟨_, _, rfl, rfl⟩; trivial)), by k_is, ⟨_, rfl⟩⟩)
    (case dlW => exact ⟨_, _, _, by k_is, by (first | exact ⟨⟨_, _, rfl, rfl⟩, ⟨_, _, rfl, rfl⟩, trivial⟩ | (constructor; exact ⟨_, _, rfl, rfl⟩; constructor; exact ⟨_, _, rfl, rfl⟩; trivial)), by k_is, ⟨_, rfl⟩⟩)
    (case dkN => exact ⟨_, _, _, by k_is, by (first | exact ⟨⟨_, _, rfl, rfl⟩, ⟨_, _, rfl, rfl⟩, trivial⟩ | (constructor; exact ⟨_, _, rfl, rfl⟩; constructor; exact ⟨_, _, rfl, rfl⟩; trivial)), by k_is, ⟨_, rfl⟩⟩)
    (case dkW => exact ⟨_, _, _, by k_is, by (first | exact ⟨⟨_, _, rfl, rfl⟩, ⟨_, _, rfl, rfl⟩, trivial⟩ | (constructor; exact ⟨_, _, rfl, rfl⟩; constructor; exact ⟨_, _, rfl, rfl⟩; trivial)), by k_is, ⟨_, rfl⟩⟩)
    (case kM => decide)
    (case eE => first | k_is | k_exc | kx_is)
    (case e0 => first | k_is | k_exc | kx_is)
    (case e1 => first | k_is | k_exc | kx_is)
    (case e2 => first | k_is | k_exc | kx_is)
    (case e3 => first | k_is | k_exc | kx_is)
    (case e4 => first | k_is | k_exc | kx_is)
    (case e5 => first | k_is | k_exc | kx_is)
    (case dEs => first | k_is | k_exc | kx_is)
    (case dEh => first | k_is | k_exc | kx_is)
    (case dEt => first | k_is | k_exc | kx_is)
    (case d0c => first | k_is | k_exc | kx_is)
    (case d0t => first | k_is | k_exc | kx_is)
    (case d1c => first | k_is | k_exc | kx_is)
    (case d1t => first | k_is | k_exc | kx_is)
    (case d2c => first | k_is | k_exc | kx_is)
    (case d2t => first | k_is | k_exc | kx_is)
    (case d3c => first | k_is | k_exc | kx_is)
    (case d3t => first | k_is | k_exc | kx_is)
    (case d4c => first | k_is | k_exc | kx_is)
    (case d4t => first | k_is | k_exc | kx_is)
    (case d5c => first | k_is | k_exc | kx_is)
    (case d5t => first | k_is | k_exc | kx_is)
    (case r0cl => first | k_is | k_exc | kx_is)
    (case r0ga => first | k_is | k_exc | kx_is)
    (case r0gg => first | k_is | k_exc | kx_is)
    (case r0sb => first | k_is | k_exc | kx_is)
    (case r0hd => first | k_is | k_exc | kx_is)
    (case r0ct => first | k_is | k_exc | kx_is)
    (case r0mr => first | k_is | k_exc | kx_is)
    (case r0ix => first | k_is | k_exc | kx_is)
    (case r0nm => first | k_is | k_exc | kx_is)
    (case r0xe => first | k_is | k_exc | kx_is)
    (case r0kv => first | k_is | k_exc | kx_is)
    (case r0k0 => first | k_is | k_exc | kx_is)
    (case r0k1 => first | k_is | k_exc | kx_is)
    (case r0k2 => first | k_is | k_exc | kx_is)
    (case r0k3 => first | k_is | k_exc | kx_is)
    (case r0k4 => first | k_is | k_exc | kx_is)
    (case r0k5 => first | k_is | k_exc | kx_is)
    (case r2cl => first | k_is | k_exc | kx_is)
    (case r2ga => first | k_is | k_exc | kx_is)
    (case r2gg => first | k_is | k_exc | kx_is)
    (case r2sb => first | k_is | k_exc | kx_is)
    (case r2hd => first | k_is | k_exc | kx_is)
    (case r2ct => first | k_is | k_exc | kx_is)
    (case r2mr => first | k_is | k_exc | kx_is)
    (case r2ix => first | k_is | k_exc | kx_is)
    (case r2nm => first | k_is | k_exc | kx_is)
    (case r2xe => first | k_is | k_exc | kx_is)
    (case r2kv => first | k_is | k_exc | kx_is)
    (case r2k0 => first | k_is | k_exc | kx_is)
    (case r2k1 => first | k_is | k_exc | kx_is)
    (case r2k2 => first | k_is | k_exc | kx_is)
    (case r2k3 => first | k_is | k_exc | kx_is)
    (case r2k4 => first | k_is | k_exc | kx_is)
    (case r2k5 => first | k_is | k_exc | kx_is)
    (case r4cl => first | k_is | k_exc | kx_is)
    (case r4ga => first | k_is | k_exc | kx_is)
    (case r4gg => first | k_is | k_exc | kx_is)
    (case r4sb => first | k_is | k_exc | kx_is)
    (case r4hd => first | k_is | k_exc | kx_is)
    (case r4ct => first | k_is | k_exc | kx_is)
    (case r4mr => first | k_is | k_exc | kx_is)
    (case r4ix => first | k_is | k_exc | kx_is)
    (case r4nm => first | k_is | k_exc | kx_is)
    (case r4xe => first | k_is | k_exc | kx_is)
    (case r4kv => first | k_is | k_exc | kx_is)
    (case r4k0 => first | k_is | k_exc | kx_is)
    (case r4k1 => first | k_is | k_exc | kx_is)
    (case r4k2 => first | k_is | k_exc | kx_is)
    (case r4k3 => first | k_is | k_exc | kx_is)
    (case r4k4 => first | k_is | k_exc | kx_is)
    (case r4k5 => first | k_is | k_exc | kx_is)
    (case r5cl => first | k_is | k_exc | kx_is)
    (case r5ga => first | k_is | k_exc | kx_is)
    (case r5gg => first | k_is | k_exc | kx_is)
    (case r5sb => first | k_is | k_exc | kx_is)
    (case r5hd => first | k_is | k_exc | kx_is)
    (case r5ct => first | k_is | k_exc | kx_is)
    (case r5mr => first | k_is | k_exc | kx_is)
    (case r5ix => first | k_is | k_exc | kx_is)
    (case r5nm => first | k_is | k_exc | kx_is)
    (case r5xe => first | k_is | k_exc | kx_is)
    (case r5kv => first | k_is | k_exc | kx_is)
    (case r5k0 => first | k_is | k_exc | kx_is)
    (case r5k1 => first | k_is | k_exc | kx_is)
    (case r5k2 => first | k_is | k_exc | kx_is)
    (case r5k3 => first | k_is | k_exc | kx_is)
    (case r5k4 => first | k_is | k_exc | kx_is)
    (case r5k5 => first | k_is | k_exc | kx_is)
    (case xU => first | k_is | k_exc | kx_is)
    (case saU => first | k_is | k_exc | kx_is)
    (case kU => first | k_is | k_exc | kx_is)
    (case aUi => first | k_is | k_exc | kx_is)
    (case tUi => first | k_is | k_exc | kx_is)
    (case lUi => first | k_is | k_exc | kx_is)
    (case cUi => first | k_is | k_exc | kx_is)
    (case kUi => first | k_is | k_exc | kx_is)
    (case xO => first | k_is | k_exc | kx_is)
    (case saO => first | k_is | k_exc | kx_is)
    (case kO => first | k_is | k_exc | kx_is)
    (case aOi => first | k_is | k_exc | kx_is)
    (case tOi => first | k_is | k_exc | kx_is)
    (case lOi => first | k_is | k_exc | kx_is)
    (case cOi => first | k_is | k_exc | kx_is)
    (case kOi => first | k_is | k_exc | kx_is)
    (case n2q => first | k_is | k_exc | kx_is)
    (case n2k => first | k_is | k_exc | kx_is)
    (case n5q => first | k_is | k_exc | kx_is)
    (case n5k => first | k_is | k_exc | kx_is)
    (case qhn => first | k_is | k_exc | kx_is)
    (case qht => first | k_is | k_exc | kx_is)
    (case bgf => first | k_is | k_exc | kx_is)
    (case btk => first | k_is | k_exc | kx_is)
    (case bfi => first | k_is | k_exc | kx_is)
    (case oA => first | k_is | k_exc | kx_is)
    (case oG => first | k_is | k_exc | kx_is)
    (case oJa => exact ⟨_, _, _, by k_is, by (first | exact ⟨⟨_, _, rfl, rfl⟩, ⟨_, _, rfl, rfl⟩, ⟨_, _, rfl, rfl⟩, trivial⟩ | (constructor; exact ⟨_, _, rfl, rfl⟩; constructor; exact ⟨_, _, rfl, rfl⟩; constructor; exact ⟨_, _, rfl, rfl⟩; trivial)), by k_is, rfl⟩)
    (case oRa => exact ⟨_, _, _, by k_is, by (first | exact ⟨⟨_, _, rfl, rfl⟩, ⟨_, _, rfl, rfl⟩, ⟨_, _, rfl, rfl⟩, trivial⟩ | (constructor; exact ⟨_, _, rfl, rfl⟩; constructor; exact ⟨_, _, rfl, rfl⟩; constructor; exact ⟨_, _, rfl, rfl⟩; trivial)), by k_is, rfl⟩)
    (case oSa => exact ⟨_, _, _, by k_is, by (first | exact ⟨⟨_, _, rfl, rfl⟩, ⟨_, _, rfl, rfl⟩, ⟨_, _, rfl, rfl⟩, trivial⟩ | (constructor; exact ⟨_, _, rfl, rfl⟩; constructor; exact ⟨_, _, rfl, rfl⟩; constructor; exact ⟨_, _, rfl, rfl⟩; trivial)), by k_is, rfl⟩)
    (case oJg => exact ⟨_, _, _, by k_is, by (first | exact ⟨⟨_, _, rfl, rfl⟩, ⟨_, _, rfl, rfl⟩, ⟨_, _, rfl, rfl⟩, trivial⟩ | (constructor; exact ⟨_, _, rfl, rfl⟩; constructor; exact ⟨_, _, rfl, rfl⟩; constructor; exact ⟨_, _, rfl, rfl⟩; trivial)), by k_is, ⟨_, rfl⟩⟩)
    (case oRg => exact ⟨_, _, _, by k_is, by (first | exact ⟨⟨_, _, rfl, rfl⟩, ⟨_, _, rfl, rfl⟩, ⟨_, _, rfl, rfl⟩, trivial⟩ | (constructor; exact ⟨_, _, rfl, rfl⟩; constructor; exact ⟨_, _, rfl, rfl⟩; constructor; exact ⟨_, _, rfl, rfl⟩; trivial)), by k_is, ⟨_, rfl⟩⟩)
    (case oSg => exact ⟨_, _, _, by k_is, by (first | exact ⟨⟨_, _, rfl, rfl⟩, ⟨_, _, rfl, rfl⟩, ⟨_, _, rfl, rfl⟩, trivial⟩ | (constructor; exact ⟨_, _, rfl, rfl⟩; constructor; exact ⟨_, _, rfl, rfl⟩; constructor; exact ⟨_, _, rfl, rfl⟩; trivial)), by k_is, ⟨_, rfl⟩⟩)
    (case oM => decide)
    (case neP01 => decide)
    (case neP02 => decide)
    (case neP12 => decide)
    (case hT => intro P hP; exact hT8 P (by rcases List.mem_cons.mp hP with z | hP; (rw [z]; k_mem); (rcases List.mem_cons.mp hP with z | hP; (rw [z]; k_mem); (rw [List.mem_singleton.mp hP]; k_mem))))
