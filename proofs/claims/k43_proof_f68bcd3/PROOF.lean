import PyProof.Rows.All
import Wide.All
import OpenK.AllK
import Wide.FinOn
import HandS.ForMost
import HandS.IsInst
import HandS.DictComp
import HandS.Walk
import HandS.Wide
import HandS.EndTab
import KE.KSortKeySt
import KE.KLam
import PyProof.TupleOfSeq
import HandS.SortKw
import HandS.Lambda
import HandS.Nested
import OpenK.KMeth
import OpenK.KOps
import HandS.Star
import HandS.SlotsOwn
import HandS.ClsMeth
import HandS.Property
import HandS.More
import KE.GoesMore
import KE.GoesEnum
import PyProof.EnumMake
import PyProof.StrOps2
import HandS.NoneIn
import HandS.Conv
import HandS.Defaults
import HandS.WordsDict
import PyProof.GenComp
import HandS.GenBody
import HandS.GenYield
import HandS.GenList
import HandS.ForDict
import HandS.Words
import HandS.MapSum
import PyProof.EqAt
import PyProof.EqKinds
import PyProof.TupleCall
import KE.KDflt
import HandS.Base
import HandS.Call
import HandS.List
import HandS.Comp
import HandS.Text
import HandS.Exc
import HandS.Codes
import HandS.TryOnly
import PyProof.CodeObj
import HandS.ExcIs
import HandS.ExcField
import HandS.ExcInit
import HandS.WordsExc
import HandS.SetFor
import KE.KExcIs
import HandS.Style
import HandS.Small
import HandS.Iter
import HandS.SortRule
import HandS.TupAny
import HandS.IterVal
import HandS.Dict
import HandS.Gcd
import KE.KNestM
import PySem.Challenge.RW_slowleaders_k43_positions
/-! A stable order by int keys: the one list that is ordered and keeps the rows of equal keys. -/
namespace OwnR
def ins {α : Type} (p : Int × α) : List (Int × α) → List (Int × α)
  | [] => [p]
  | q :: r => if p.1 ≤ q.1 then p :: q :: r else q :: ins p r
def isort {α : Type} : List (Int × α) → List (Int × α)
  | [] => []
  | p :: r => ins p (isort r)
section
variable {α β : Type}
theorem ins_perm (p : Int × α) : ∀ l : List (Int × α), (ins p l).Perm (p :: l)
  | [] => List.Perm.refl _
  | q :: r => by
    unfold ins
    split
    · exact List.Perm.refl _
    · exact ((ins_perm p r).cons q).trans (List.Perm.swap p q r)
theorem isort_perm : ∀ l : List (Int × α), (isort l).Perm l
  | [] => List.Perm.refl _
  | p :: r => (ins_perm p _).trans ((isort_perm r).cons p)
theorem ins_up (p : Int × α) : ∀ l : List (Int × α), l.Pairwise (fun a b => a.1 ≤ b.1) → (ins p l).Pairwise (fun a b => a.1 ≤ b.1)
  | [], _ => by simp [ins]
  | q :: r, h => by
    unfold ins
    have h1 := List.pairwise_cons.mp h
    split
    · rename_i hpq
      refine List.pairwise_cons.mpr ⟨fun b hb => ?_, h⟩
      rcases List.mem_cons.mp hb with rfl | hb
      · exact hpq
      · exact Int.le_trans hpq (h1.1 b hb)
    · rename_i hpq
      refine List.pairwise_cons.mpr ⟨fun b hb => ?_, ins_up p r h1.2⟩
      rcases List.mem_cons.mp ((ins_perm p r).mem_iff.mp hb) with rfl | hb
      · omega
      · exact h1.1 b hb
theorem isort_up : ∀ l : List (Int × α), (isort l).Pairwise (fun a b => a.1 ≤ b.1)
  | [] => List.Pairwise.nil
  | p :: r => ins_up p _ (isort_up r)
theorem ins_row (p : Int × α) (z : Int) : ∀ l : List (Int × α), (ins p l).filter (fun a => a.1 == z) = (p :: l).filter (fun a => a.1 == z)
  | [] => rfl
  | q :: r => by
    unfold ins
    split
    · rfl
    · rename_i hpq
      rw [List.filter_cons, ins_row p z r]
      by_cases h1 : p.1 = z
      · have h2 : (q.1 == z) = false := by simp; omega
        simp [List.filter_cons, h1, h2]
      · have h3 : (p.1 == z) = false := by simp [h1]
        simp [List.filter_cons, h3]
theorem isort_row (z : Int) : ∀ l : List (Int × α), (isort l).filter (fun a => a.1 == z) = l.filter (fun a => a.1 == z)
  | [] => rfl
  | p :: r => by
    unfold isort
    rw [ins_row, List.filter_cons, List.filter_cons, isort_row z r]
theorem eq_of_rows : ∀ l k : List (Int × α), l.Pairwise (fun a b => a.1 ≤ b.1) → k.Pairwise (fun a b => a.1 ≤ b.1) → (∀ z, l.filter (fun a => a.1 == z) = k.filter (fun a => a.1 == z)) → l = k
  | [], [], _, _, _ => rfl
  | [], b :: k, _, _, h => by
    have := h b.1
    simp at this
  | a :: l, [], _, _, h => by
    have := h a.1
    simp at this
  | a :: l, b :: k, hl, hk, h => by
    have l1 := List.pairwise_cons.mp hl
    have k1 := List.pairwise_cons.mp hk
    have hab : a.1 = b.1 := by
      rcases Int.lt_trichotomy a.1 b.1 with c | c | c
      · exfalso
        have e := h a.1
        rw [List.filter_cons, if_pos (by simp)] at e
        have m : a ∈ (b :: k).filter (fun x => x.1 == a.1) := by rw [← e]; exact List.mem_cons_self
        have m1 := List.mem_filter.mp m
        rcases List.mem_cons.mp m1.1 with e1 | e1
        · rw [e1] at c; omega
        · have := k1.1 a e1; omega
      · exact c
      · exfalso
        have e := h b.1
        have m : b ∈ (a :: l).filter (fun x => x.1 == b.1) := by
          rw [e, List.filter_cons, if_pos (by simp)]; exact List.mem_cons_self
        have m1 := List.mem_filter.mp m
        rcases List.mem_cons.mp m1.1 with e1 | e1
        · rw [e1] at c; omega
        · have := l1.1 b e1; omega
    have e := h a.1
    rw [List.filter_cons, if_pos (by simp), List.filter_cons, if_pos (by simp [hab])] at e
    have e0 : a = b := (List.cons.inj e).1
    subst e0
    refine congrArg _ (eq_of_rows l k l1.2 k1.2 fun z => ?_)
    have ez := h z
    by_cases c : a.1 = z
    · rw [List.filter_cons, if_pos (by simp [c]), List.filter_cons, if_pos (by simp [c])] at ez
      exact (List.cons.inj ez).2
    · rw [List.filter_cons, if_neg (by simp [c]), List.filter_cons, if_neg (by simp [c])] at ez
      exact ez
theorem isort_unique {l k : List (Int × α)} (h1 : k.Pairwise (fun a b => a.1 ≤ b.1)) (h2 : ∀ z, k.filter (fun a => a.1 == z) = l.filter (fun a => a.1 == z)) : k = isort l :=
  eq_of_rows k (isort l) h1 (isort_up l) fun z => (h2 z).trans (isort_row z l).symm
theorem ins_map (f : α → β) (p : Int × α) : ∀ l : List (Int × α), ins (p.1, f p.2) (l.map fun q => (q.1, f q.2)) = (ins p l).map fun q => (q.1, f q.2)
  | [] => rfl
  | q :: r => by
    simp only [List.map_cons, ins]
    split
    · rfl
    · rw [ins_map f p r, List.map_cons]
theorem isort_map (f : α → β) : ∀ l : List (Int × α), isort (l.map fun q => (q.1, f q.2)) = (isort l).map fun q => (q.1, f q.2)
  | [] => rfl
  | p :: r => by
    simp only [List.map_cons, isort]
    rw [isort_map f r, ins_map f p]
/-- the items in the order of their keys, stable -/
def sortBy (key : α → Int) (l : List α) : List α := (isort (l.map fun x => (key x, x))).map (·.2)
theorem sortBy_perm (key : α → Int) (l : List α) : (sortBy key l).Perm l := by
  have h := (isort_perm (l.map fun x => (key x, x))).map (·.2)
  rw [List.map_map] at h
  have e : ((fun x : Int × α => x.2) ∘ fun x => (key x, x)) = id := rfl
  rw [e, List.map_id] at h
  exact h
theorem sortBy_map (f : α → β) (k1 : α → Int) (k2 : β → Int) (l : List α) (h : ∀ x ∈ l, k2 (f x) = k1 x) : sortBy k2 (l.map f) = (sortBy k1 l).map f := by
  unfold sortBy
  have e : ((l.map f).map fun x => (k2 x, x)) = (l.map fun x => (k1 x, x)).map fun q => (q.1, f q.2) := by
    rw [List.map_map, List.map_map]
    refine List.map_congr_left fun x hx => ?_
    show (k2 (f x), f x) = (k1 x, f x)
    rw [h x hx]
  rw [e, isort_map, List.map_map, List.map_map]
  rfl
theorem sortBy_congr (k1 k2 : α → Int) (l : List α) (h : ∀ x ∈ l, k2 x = k1 x) : sortBy k2 l = sortBy k1 l := by
  have := sortBy_map (fun x => x) k1 k2 l h
  simpa using this
end
end OwnR

set_option Elab.async false
set_option linter.all false
set_option maxRecDepth 100000
set_option maxHeartbeats 2000000
namespace OwnR
open PySem PySem.Spec PyProof.Rows L2 LamX
/-! ### sorted(xs, key=lambda y: ..) -/
section
variable {prog : Program} {w : World} {A : Around} {E : Value → Shared → Prop} {s : Shared} {g0 : Heap} {L : Addr} {m : Str → Option Value} {news : List (Addr × Obj)} {vs : List Value}
/-- the new list is sorted by its keys and handed out -/
theorem sort_tail {R : PySem.Fin → Shared → Prop} {kz : List Int} {g : Addr} (F : Fr g0 L s.heap m) (N : News g0 L s.heap news) (hl : kz.length = vs.length) (hz : vs.length ≤ sizeLine)
    (turn : ∀ (i : Nat) (v : Value) (k : Int), vs[i]? = some v → kz[i]? = some k → ∀ (h : Heap) (tk : Nat) (own : List (Addr × Obj)), Fr g0 L h m → News g0 L h (news ++ own) →
      wpAny (model prog w) A.in1 (call (.ref g) [v]) (KskEnd g0 L m (news ++ own) k { s with heap := h, toks := tk }) (fun _ _ => False) { s with heap := h, toks := tk })
    (done : ∀ h' tk out c, Fr g0 L h' m → News g0 L h' ((s.heap.objs.size, seqObj "list" out c) :: news) → KskOutSt false kz vs out.toList → R (.done (.ret (.ref s.heap.objs.size))) { s with heap := h', toks := tk }) :
    wpAny (model prog w) A (newList vs >>= fun l => holding [l] (call (.builtin "list.sort") [l] [(Str.ofString "key", .ref g)]) >>= fun _ => ret l) R E s := by
  have hL : L < s.heap.objs.size := F.ns.lt
  have at0 : (s.heap.push (seqObj "list" vs.toArray 0)).get? s.heap.objs.size = some (seqObj "list" vs.toArray 0) := Heap.get?_push_size _ rfl
  have kp : ∀ b o, s.heap.get? b = some o → (s.heap.push (seqObj "list" vs.toArray 0)).get? b = some o := fun b o e => Heap.get?_push_of_some _ e
  refine wpAny_bind (wpAny_newList ?_ hz)
  show wpAny _ _ _ _ _ { s with heap := s.heap.push (seqObj "list" vs.toArray 0) }
  refine wpAny_bind (wpAny_holding (wpAny_call_entry_kw slot_list_sort ⟨_, at0, rfl⟩ entry_list_sort ?body (ksk_l1 _ _)))
  case body =>
    have et := ksk_t1 g s.heap.objs.size
    show wpAny (model prog w) A.in1 (Builtin.«list.sort» ⟨[.ref s.heap.objs.size], [(Str.ofString "key", .ref g)]⟩) _ _ _
    rw [et]
    refine ksk_sortSt (h₀ := g0) (L := L) (m := m) (news := news) (kz := kz) (vs := vs) (s := { s with heap := s.heap.push (seqObj "list" vs.toArray 0) })
      (F.kept kp) (N.grown kp) at0 (Nat.ne_of_gt hL) (Heap.get?_none_of_le (Nat.le_trans F.above (Nat.le_of_lt hL))) (fun p hp => Nat.ne_of_lt (Heap.lt_size (N p hp).1)) hl hz turn
      fun h' tk out c F' N' k' => ⟨_, rfl, wpAny_pure (done h' tk out c F' N' k')⟩
end
/-- a value of the heap, without its token -/
def toV : Value → V
  | .none => .non
  | .bool b => .bl b
  | .int i _ => .int i
  | .str x _ => .str x
  | .bytes b _ => .byt b
  | .float b _ => .flt b
  | .ref a => .ref a
  | .type n => .ty n
  | _ => .non
theorem toV_of {x : V} {u : Value} (r : RelV x u) : toV u = x := by
  cases x with
  | non => cases (show u = Value.none from r); rfl
  | bl b => cases (show u = Value.bool b from r); rfl
  | int i => obtain ⟨t, e⟩ := (show ∃ t, u = Value.int i t from r); cases e; rfl
  | str x => obtain ⟨t, e⟩ := (show ∃ t, u = Value.str x t from r); cases e; rfl
  | byt b => obtain ⟨t, e⟩ := (show ∃ t, u = Value.bytes b t from r); cases e; rfl
  | flt b => obtain ⟨t, e⟩ := (show ∃ t, u = Value.float b t from r); cases e; rfl
  | ref a => cases (show u = Value.ref a from r); rfl
  | ty n => cases (show u = Value.type n from r); rfl
theorem toV_map {xs : List V} {us : List Value} (r : Vals xs us) : us.map toV = xs := by
  induction r with
  | nil => rfl
  | cons a _ ih => rw [List.map_cons, ih, toV_of a]
theorem vals_toV : ∀ {us : List Value}, (∀ u ∈ us, RelV (toV u) u) → Vals (us.map toV) us
  | [], _ => .nil
  | u :: us, h => .cons (h u List.mem_cons_self) (vals_toV fun v hv => h v (List.mem_cons_of_mem _ hv))
theorem vals_all {xs : List V} {us : List Value} (r : Vals xs us) : ∀ u ∈ us, RelV (toV u) u := by
  induction r with
  | nil => intro u hu; cases hu
  | cons a _ ih =>
    intro u hu
    rcases List.mem_cons.mp hu with rfl | hu
    · rw [toV_of a]; exact a
    · exact ih u hu
/-- what comes out, by values -/
theorem out_of {kz : List Int} {vs out : List Value} {xs : List V} (hl : kz.length = vs.length) (r : Vals xs vs) (k : KskOutSt false kz vs out) :
    ∃ ys, Vals ys out ∧ ys = (isort (kz.zip xs)).map (·.2) := by
  obtain ⟨ps, hp, ho, hs, hst⟩ := k
  have hs' : ps.Pairwise (fun a b => a.1 ≤ b.1) := hs
  have e := isort_unique hs' hst
  have e2 : kz.zip xs = (kz.zip vs).map fun q => (q.1, toV q.2) := by
    rw [← toV_map r, List.zip_map_right]
    rfl
  refine ⟨out.map toV, vals_toV fun u hu => ?_, ?_⟩
  · rw [ho] at hu
    obtain ⟨p, hm, rfl⟩ := List.mem_map.mp hu
    exact vals_all r _ (List.of_mem_zip (hp.mem_iff.mp hm)).2
  · rw [e2, isort_map, ho, e, List.map_map, List.map_map]
    rfl
/-- what a key's body gives for the value u: the int k, nothing changed -/
def KeyRun (X : Cx) (par : Str) (body : Expr) (scope : Scope) (s : Shared) (u : Value) (k : Int) : Prop :=
  ∀ (A : Around) (L' f c' : Addr) (h1 : Heap) (tk : Nat), (∀ b o, s.heap.get? b = some o → b ≠ X.env.locals → h1.get? b = some o) → h1.Ns L' (fun y => ([(par, u)] : List (Str × Value)).reverse.lookup y) →
    wpAny (model X.prog X.w) A (eval body (PySem.W.envX (X.env.qual ++ "<lambda>") scope L' f (.ref c') (cloFrom X.env.cells scope.names []))) (fun v s' => ∃ t tk', v = .int k t ∧ s' = { s with heap := h1, toks := tk' }) (fun _ _ => False)
      { s with heap := h1, toks := tk }
/-- the lambda's scope: its parameter, no cell of its own, captured names of the maker -/
structure LamP (sc scope : Scope) (par : Str) : Prop where
  kind : scope.kind = .function
  co : scope.isCoroutine = false
  gen : scope.isGenerator = false
  cell : ∀ y ∈ scope.names, y.2 ≠ .cell
  par : scope.names.lookup par = some .local
  free : ∀ y ∈ scope.names, y.2 = .free → sc.names.lookup y.1 = some .cell ∨ sc.names.lookup y.1 = some .free
def lamPB (sc scope : Scope) (par : Str) : Bool :=
  decide (scope.kind = .function) && !scope.isCoroutine && !scope.isGenerator && decide (scope.names.lookup par = some .local) && scope.names.all fun y => !decide (y.2 = .cell) && (!decide (y.2 = .free) || decide (sc.names.lookup y.1 = some .cell) || decide (sc.names.lookup y.1 = some .free))
theorem lamP_by {sc scope : Scope} {par : Str} (h : lamPB sc scope par = true) : LamP sc scope par := by
  unfold lamPB at h
  simp only [Bool.and_eq_true, Bool.or_eq_true, Bool.not_eq_true', decide_eq_true_eq, decide_eq_false_iff_not, List.all_eq_true] at h
  obtain ⟨⟨⟨⟨h1, h2⟩, h3⟩, h4⟩, h5⟩ := h
  refine ⟨h1, h2, h3, fun y hy => (h5 y hy).1, h4, fun y hy e => ?_⟩
  rcases (h5 y hy).2 with (z | z) | z
  · exact absurd e z
  · exact .inl z
  · exact .inr z
theorem LamP.has {X : Cx} {scope : Scope} {par : Str} (l : LamP X.env.scope scope par) (ok : X.Ok) : ∀ y ∈ scope.names, y.2 = .free → ∃ c, X.env.cells.lookup y.1 = some c := fun y hy e =>
  (l.free y hy e).elim (fun z => ok.has _ (.inl z)) fun z => ok.has _ (.inr z)
/-- the keys' readings: σ, H ahead; the item; its key -/
abbrev TKey := L2.St → Hp → V → Int → Prop
structure PKey (X : Cx) (par : Str) (body : Expr) (scope : Scope) (r : TKey) : Prop where
  run : ∀ (pins : List (Addr × Obj)) (s : Shared) (σ : L2.St) (H : Hp) (x : V) (u : Value) (k : Int), Inv X pins σ H s → RelV x u → r σ H x k → KeyRun X par body scope s u k
/-- sorted(xs, key=lambda y: body): T the tables of code objects -/
def sortWant (K : PySem.W.Frag) (T : List (Addr × Str)) (r : TKey) (σ : L2.St) (Q : VK) : V → Hp → Prop := fun x H1 => ∃ (p : Addr) (xs : List V) (ks : List Int), x = .ref p ∧ (SqL K H1 p xs ∨ SqT K H1 p xs) ∧ ks.length = xs.length ∧
  Tabs T H1 ∧ (∀ H2, ExtN H1 H2 → ∀ (i : Nat) (x : V) (k : Int), xs[i]? = some x → ks[i]? = some k → r σ H2 x k) ∧
  ∀ H2 D, ExtN H1 H2 → Tabs T H2 → H2 D = none → Q (.ref D) (upd H2 D (.lst ((isort (ks.zip xs)).map (·.2))))
def tSortLam (K : PySem.W.Frag) (T : List (Addr × Str)) (te : TE) (r : TKey) : TE := fun σ H Q => te σ H (sortWant K T r σ Q)
def one1 (g : V → Hp → Prop) : List V → Hp → Prop := fun vs H => match vs with
  | [x] => g x H
  | _ => False
theorem one1_of {g : V → Hp → Prop} {vs : List V} {H : Hp} (h : one1 g vs H) : ∃ x, vs = [x] ∧ g x H := by
  match vs, h with
  | [x], h => exact ⟨x, rfl, h⟩
theorem ns_one {h : Heap} {a : Addr} {m m' : Str → Option Value} (x : h.Ns a m) (y : h.Ns a m') : m = m' := by
  obtain ⟨o, es, ep, ho, hd, _, hm⟩ := x
  obtain ⟨o', es', ep', ho', hd', _, hm'⟩ := y
  rw [ho] at ho'
  cases ho'
  rw [hd] at hd'
  cases hd'
  funext z
  rw [← hm z, hm' z]
/-- a new object, all others kept but the frame's, whose names stay -/
theorem inv_laidL {X : Cx} {pins : List (Addr × Obj)} {σ : L2.St} {H : Hp} {s : Shared} {h' : Heap} {D tk : Nat} {o : HO} {m : Str → Option Value} (I : Inv X pins σ H s) (hn : s.heap.Ns X.env.locals m) (hn' : h'.Ns X.env.locals m)
    (k : ∀ b u, s.heap.get? b = some u → b ≠ X.env.locals → h'.get? b = some u) (hD : s.heap.objs.size ≤ D) (new : ObjOk X.prog X.w (upd H D o) h' D o) : Inv X pins σ (upd H D o) { s with heap := h', toks := tk } := by
  have fD : H D = none := I.hok.fresh hD
  have old : ∀ b u, s.heap.get? b = some u → b ≠ D := fun b u e => Nat.ne_of_lt (Nat.lt_of_lt_of_le (Heap.lt_size e) hD)
  have trL : ∀ b u, H b = some u → b ≠ X.env.locals := fun b u e => ne_of_none e I.free
  refine I.step (g' := s.gens) (d' := s.drawn) (t' := tk) (ch := []) (fun _ z => nomatch z) (fun b u nb _ _ e _ => k b u e nb) (fun b u nb _ _ e _ => ⟨u.slots, k b u e nb⟩) (fun b u _ e n => by rw [upd_ne (old b u e)]; exact n) (fun b u _ e => ?_)
    (fun b ys e => by rw [upd_ne (ne_of_none e fD)]; exact e) (fun b u v e => by rw [upd_ne (ne_of_none e fD)]; exact e) (fun b ps e => ⟨#[], by rw [upd_ne (ne_of_none e fD), e]; simp⟩) (fun m' hm => ?_) (fun b u e => ?_) I.bare
  · by_cases hb : b = X.env.locals
    · obtain ⟨ob, _, _, e1, _⟩ := hn'
      exact ⟨ob, by rw [hb]; exact e1⟩
    · exact ⟨u, k b u e hb⟩
  · rw [ns_one hm hn]
    exact hn'
  · by_cases hb : b = D
    · rw [hb, upd_same] at e
      cases e
      rw [hb]
      exact new
    · rw [upd_ne hb] at e
      refine (I.hok b u e).stay (fun c v hc q => k c v q ?_) (fun c q => by rw [upd_ne (ne_of_none q fD)]; exact q) fun c ys q => by rw [upd_ne (ne_of_none q fD)]; exact q
      rcases hc with z | z
      · rw [z]
        exact trL b u e
      · exact trL c _ z
theorem seq_at {X : Cx} {pins : List (Addr × Obj)} {σ : L2.St} {H : Hp} {s : Shared} {p : Addr} {xs : List V} (I : Inv X pins σ H s) (h : SqL X.K H p xs ∨ SqT X.K H p xs) :
    ∃ (its : List Value) (T : String) (o : Obj) (n : Nat), Vals xs its ∧ (T = "list" ∨ T = "tuple") ∧ s.heap.get? p = some o ∧ o.cls = .type T ∧ o.data = .seq its.toArray n ∧ xs.length ≤ sizeLine := by
  rcases h with h | h
  · obtain ⟨its, r, pl, hz⟩ := I.list h
    obtain ⟨o, ho, hc, n, hd⟩ := pl.isList
    exact ⟨its, "list", o, n, r, .inl rfl, ho, hc, hd, hz⟩
  · obtain ⟨its, r, ⟨o, ho, hc, n, hd⟩, hz⟩ := I.tuple h
    exact ⟨its, "tuple", o, n, r, .inr rfl, ho, hc, hd, hz⟩
theorem pe_sortLam {X : Cx} {T : List (Addr × Str)} {c P : Addr} {te : TE} {r : TKey} {e body : Expr} {params : Arguments} {scope : Scope} {par : Str} {p1 pos lpos kpos : Pos} (hr : Room 2 X.A) (TB : TabB X.base X.mg c P) (hcode : X.env.code = .ref c)
    (hm : (P, X.env.qual ++ "<lambda>") ∈ T) (hu : ∀ p ∈ T, p.1 = P → p.2 = X.env.qual ++ "<lambda>") (hg : Gl X "sorted") (hms : X.mg "sorted" = none) (lp : LamP X.env.scope scope par) (he : PE X e te) (hk : PKey X par body scope r)
    (hdef : defaultsOf params X.env = ([], []) := by rfl)
    (hb : ∀ (cl : List (Str × Addr)) (pm cdv ct v : Value), bindArgs (PySem.W.kla_fn "<lambda>" (X.env.qual ++ "<lambda>") params body scope cl pm cdv ct) ⟨[v], []⟩ = pure [(par, v)] := by intros; rfl)
    (h0 : starEach [e] X.env = (false, eval e X.env) :: starEach [] X.env := by rfl)
    (h1 : backTo pos (starEach [e] X.env) = (false, eval e X.env) :: backTo pos (starEach [] X.env) := by rfl) (h2 : (backTo pos (starEach [e] X.env)).any (·.1) = false := by rfl)
    (h3 : (backToKw pos (keywordEach [⟨some "key", .Lambda params body scope lpos, kpos⟩] X.env)).all (·.1.isSome) = true := by rfl) (h4 : (backToKw pos (keywordEach [⟨some "key", .Lambda params body scope lpos, kpos⟩] X.env)).any (·.1.isNone) = false := by rfl)
    (h5 : (backToKw pos (keywordEach [⟨some "key", .Lambda params body scope lpos, kpos⟩] X.env)).filterMap (·.1) = [Str.ofString "key"] := by rfl) :
    PE X (.Call (.Name "sorted" p1) [e] [⟨some "key", .Lambda params body scope lpos, kpos⟩] pos) (tSortLam X.K T te r) := by
  have hpa : PA X [e] (tCons te tNil) := pa_cons he pa_nil h0
  refine ⟨fun pins s σ H Q I h => ?_⟩
  refine wpAny_Call_Name_kw (ld_blt I hg hms (by decide +kernel : bootBuiltins "sorted" = some (.builtin "sorted")) ?_)
  refine PyProof.Rows.callWith_kw (thn (hpa.run pos pins s σ H (one1 (sortWant X.K T r σ Q)) I h) fun us s1 hs1 => ?_) h1 h2 h3 h4
  obtain ⟨vs, H1, I1, rv, hq⟩ := hs1
  obtain ⟨x, rfl, hq⟩ := one1_of hq
  obtain ⟨p, xs, ks, rfl, hsq, hlk, hT, hR, q⟩ := hq
  obtain ⟨u1, rfl, ru⟩ := vals1 rv
  cases (show u1 = Value.ref p from ru)
  rw [h5]
  show wpAny _ _ (evalAll ((do let v ← eval (.Lambda params body scope lpos) X.env; standAt pos; pure v) :: [])) _ _ s1
  refine wpAny_evalAll_cons (wpAny_bind (lam_make2 I1 TB hcode hm hu hT hdef (lp.has I1.ok) fun f c' pm ctv H2 s2 I2 eN T2 hf hfn hfs hc => wpAny_bind (wpAny_standAt (wpAny_pure (wpAny_pure ?_)))))
  show wpAny _ _ (call (.builtin "sorted") [.ref p] [(Str.ofString "key", .ref f)]) _ _ s2
  have hsq2 : SqL X.K H2 p xs ∨ SqT X.K H2 p xs := by
    rcases hsq with ((z | ⟨o, z⟩) | z) | ((z | ⟨o, z⟩) | z)
    · exact .inl (.inl (.inl (eN _ _ z (fun _ y => nomatch y))))
    · exact .inl (.inl (.inr ⟨o, eN _ _ z (fun _ y => nomatch y)⟩))
    · exact .inl (.inr z)
    · exact .inr (.inl (.inl (eN _ _ z (fun _ y => nomatch y))))
    · exact .inr (.inl (.inr ⟨o, eN _ _ z (fun _ y => nomatch y)⟩))
    · exact .inr (.inr z)
  obtain ⟨its, Ty, o, n, rI, hTy, ho, hcl, hd, hz⟩ := seq_at I2 hsq2
  have hli := rI.length
  refine PyProof.Rows.call_function_entry_kw kind_sorted plain_sorted entry_sorted (ksk_s1 _ _) ?_
  show wpAny _ _ (checkCount "sorted" 1 1 1 >>= fun _ => collect (.ref p) >>= fun vs => newList vs >>= fun l => holding [l] (call (.builtin "list.sort") [l] [(Str.ofString "key", .ref f)]) >>= fun _ => ret l) _ _ _
  refine wpAny_bind (m := checkCount "sorted" 1 1 1) (wpAny_pure (wpAny_bind (wpAny_collect_seq p hTy ho hcl hd (fun h' kp => ?_) (by rw [List.size_toArray]; omega))))
  have e1 : its.toArray.toList = its := by simp
  rw [e1]
  have I3 : Inv X pins σ H2 { s2 with heap := h', toks := s2.toks } := I2.kept kp
  obtain ⟨m, F⟩ := I3.fr
  have N := news_all (g := X.base) (h := h') (L := X.env.locals)
  have keepAll : ∀ {hh : Heap} {mm : Str → Option Value} {own : List (Addr × Obj)}, Fr X.base X.env.locals hh mm → News X.base X.env.locals hh (allNews X.base h' X.env.locals ++ own) → ∀ b ob, h'.get? b = some ob → b ≠ X.env.locals → hh.get? b = some ob := by
    intro hh mm own F' N' b ob eb nb
    cases q : X.base.get? b with
    | some ob' =>
      have := I3.bk b ob' q
      rw [eb] at this
      cases this
      exact F'.keep b _ q
    | none => exact (N' (b, ob) (List.mem_append_left _ (mem_allNews nb q eb))).1
  have hr1 : Room 1 X.A.in1 := hr.in1
  refine sort_tail (kz := ks) F N (by rw [hlk, hli]) (by rw [← hli]; exact hz) (fun i v k hv hk' hh tk own F' N' => ?_) fun hh tk out cc F' N' ko => ?_
  · have hi : i < its.length := (List.getElem?_eq_some_iff.mp hv).1
    obtain ⟨x, hx⟩ : ∃ x, xs[i]? = some x := ⟨_, List.getElem?_eq_getElem (by omega)⟩
    obtain ⟨v', hv', rx⟩ := rI.get hx
    have ev : v' = v := Option.some.inj (hv'.symm.trans hv)
    subst ev
    have nfL : f ≠ X.env.locals := fun z => by
      obtain ⟨mL, ⟨oL, _, _, eL, dL, _⟩, _⟩ := I2.loc
      rw [← z, hf] at eL
      cases eL
      cases dL
    have hff := keepAll F' N' f _ (kp _ _ hf) nfL
    obtain ⟨⟨oc, cv, ct, d1, d2, d3⟩, _, _⟩ := I2.hok c' _ hc
    have hcc := keepAll F' N' c' _ (kp _ _ d1) (ne_of_none hc I2.free)
    refine wpAny_call (PySem.W.kla_callFunE hr.in1.in1.depth hff rfl lp.co lp.gen rfl ⟨c', oc, cv, ct, rfl, hcc, d2, d3⟩ ?_)
    rw [hb]
    refine wpAny_pure (wpAny_newFunctionEnv lp.cell (fun y hy => ?_) (fun h₁ hns hsb => ⟨(I2.ok.mod.nolimit.keeps F'.keep).fresh _ hsb, ?_⟩) lp.kind)
    · rw [List.mem_singleton.mp hy]
      exact lp.par
    · have kp1 : ∀ b ob, hh.get? b = some ob → h₁.get? b = some ob := fun b ob e => hsb.extBut b ob (Nat.ne_of_lt (Heap.lt_size e)) (Heap.get?_push_of_some _ e)
      show codeAny _ _ (.expr body (PySem.W.envX (X.env.qual ++ "<lambda>") scope hh.objs.size f (.ref c') (cloFrom X.env.cells scope.names []))) _ _
      refine PySem.W.kla_codeExpr (wpAny_mono (hk.run pins _ σ H2 x v' k I3 rx (hR H2 eN i x k hx hk') _ hh.objs.size f c' h₁ (tk + 1) (fun b ob e nb => kp1 b ob (keepAll F' N' b ob e nb)) hns) (fun v s' hq => ?_) fun _ _ z => z.elim)
      obtain ⟨t, tk', ev, es⟩ := hq
      exact ⟨h₁, tk', t, es, ev, ⟨F'.ns.keeps kp1, fun b ob e => kp1 b ob (F'.keep b ob e), F'.above⟩, fun z hz => ⟨kp1 _ _ (N' z hz).1, (N' z hz).2⟩⟩
  · obtain ⟨ys, r2, ey⟩ := out_of (by rw [hlk, hli]) rI ko
    have lo : ys.length = xs.length := by
      rw [ey, List.length_map, (isort_perm _).length_eq, List.length_zip, hlk, Nat.min_self]
    have at1 := (N' _ List.mem_cons_self).1
    have I4 := inv_laidL (D := h'.objs.size) (tk := tk) (o := .lst ys) I3 F.ns F'.ns (fun b ob e nb => keepAll (own := []) F' (fun z hz => N' z (List.mem_cons_of_mem _ (by simpa using hz))) b ob e nb) (Nat.le_refl _)
      ⟨by rw [lo]; exact hz, out.toList, cc, r2, by rw [Array.toArray_toList]; exact at1⟩
    refine ⟨_, rfl, .ref h'.objs.size, _, I4, rfl, ?_⟩
    rw [ey]
    exact q H2 h'.objs.size eN T2 (I3.hok.fresh (Nat.le_refl _))
end OwnR

set_option Elab.async false
set_option linter.all false
set_option maxRecDepth 100000
set_option maxHeartbeats 2000000
namespace OwnR
open PySem PySem.Spec PyProof.Rows L2 LamX
/-! ### two bodies of keys: d[y], d captured; y[n] of a tuple -/
/-- what is read of a tracked object stays where all but the frame is kept -/
theorem ok_keepL {X : Cx} {pins : List (Addr × Obj)} {σ : L2.St} {H : Hp} {s : Shared} {h' : Heap} {b : Addr} {u : HO} (I : Inv X pins σ H s) (k : ∀ b o, s.heap.get? b = some o → b ≠ X.env.locals → h'.get? b = some o) (e : H b = some u) : ObjOk X.prog X.w H h' b u := by
  refine (I.hok b u e).stay (fun c v hc q => k c v q ?_) (fun _ q => q) fun _ _ q => q
  rcases hc with z | z
  · rw [z]
    exact ne_of_none e I.free
  · exact ne_of_none z I.free
theorem rd_keepL {X : Cx} {pins : List (Addr × Obj)} {σ : L2.St} {H : Hp} {s : Shared} {h' : Heap} {b : Addr} {u : HO} (I : Inv X pins σ H s) (k : ∀ b o, s.heap.get? b = some o → b ≠ X.env.locals → h'.get? b = some o) (e : Rd H b u) : ObjOk X.prog X.w H h' b u := by
  rcases e with e | ⟨o, e⟩
  · exact ok_keepL I k e
  · exact (ok_keepL I k e).2
def keyDict (j : Nat) : TKey := fun σ H x k => ∃ (a : Addr) (kvs : List (Key × V)) (key : Key), σ[j]? = some (some (.ref a)) ∧ Rd H a (.dK kvs) ∧ x = kV key ∧ valV kvs key = some (.int k)
theorem pk_dict {X : Cx} {par d : Str} {scope : Scope} {p1 p2 p3 : Pos} {j : Nat} (hN : X.N[j]? = some d) (hd : (d, NameKind.free) ∈ scope.names) (hl : scope.names.lookup d = some .free) (lp : LamP X.env.scope scope par)
    (hv : Vis X.env.scope d) (n1 : (d == ("__debug__" : Str)) = false := by decide) (n2 : (par == ("__debug__" : Str)) = false := by decide) (n3 : (d == ("__classdict__" : Str)) = false := by decide) (hsl : NoSl (.Name par p2) := by exact fun _ _ => rfl) :
    PKey X par (.Subscript (.Name d p1) (.Name par p2) p3) scope (keyDict j) := by
  refine ⟨fun pins s σ H x u k I rx hr A L' f c' h1 tk kp hns => ?_⟩
  obtain ⟨a, kvs, key, hs, hrd, ex, hval⟩ := hr
  subst ex
  have hfree := lp.has I.ok
  obtain ⟨m, hm, hlook⟩ := I.loc
  obtain ⟨w', rw', lk⟩ := hlook j d (.ref a) hN hs hv
  cases (show w' = Value.ref a from rw')
  have kd : X.env.scope.names.lookup d = some .cell ∨ X.env.scope.names.lookup d = some .free := lp.free _ hd rfl
  obtain ⟨c, hc, hcell⟩ : ∃ c, X.env.cells.lookup d = some c ∧ s.heap.IsCell c (some (.ref a)) := by
    rcases lk with ⟨k1, _⟩ | ⟨_, c, hc, z⟩
    · have k1 : X.env.scope.names.lookup d = some .local := k1
      rcases kd with k2 | k2 <;> rw [k2] at k1 <;> cases k1
    · exact ⟨c, hc, z⟩
  have hcell' : h1.IsCell c (some (.ref a)) := by
    obtain ⟨o, ho, hd'⟩ := hcell
    exact ⟨o, kp c o ho (I.cne d c hc), hd'⟩
  have hclo : (cloFrom X.env.cells scope.names []).lookup d = some c := NdefX.clo_has hfree hd hc
  obtain ⟨z, hsm, vs, rel, dd⟩ := (show ObjOk X.prog X.w H h1 a (.dK kvs) from rd_keepL I kp hrd)
  obtain ⟨w2, hw, rw2⟩ := RelO.some_of (v := .int k) (o := valueAt vs key) (by rw [← hval]; exact rel.val key)
  obtain ⟨t, rfl⟩ := (show ∃ t, w2 = Value.int k t from rw2)
  have tdict : ∀ tk', ({ s with heap := h1, toks := tk' } : Shared).TypeIs (.ref a) "dict" := fun tk' => (dd.mapOf).typeIs
  refine subD_of PySem.F.slot_dict_getitem.lookup hsl (wpAny_Name (wpAny_loadName_free lp.kind hl hclo hcell' ?_ n3) n1)
  refine wpAny_Name (wpAny_loadName_local (v := u) lp.kind lp.par hns ?_ ?_) n2
  · show ([(par, u)] : List (Str × Value)).reverse.lookup par = some u
    simp [List.lookup]
  · exact ⟨tdict _, wpAny_getItem_of (kV_is rx) dd.mapOf hw ⟨t, _, rfl, rfl⟩⟩
def keyItem (K : PySem.W.Frag) (n : Nat) : TKey := fun σ H x k => ∃ (t : Addr) (ys : List V), x = .ref t ∧ SqT K H t ys ∧ ys[n]? = some (.int k)
theorem pk_item {X : Cx} {par : Str} {scope : Scope} {p1 p2 p3 : Pos} {n j : Nat} (lp : LamP X.env.scope scope par) (hn : n < 1000) (n2 : (par == ("__debug__" : Str)) = false := by decide) :
    PKey X par (.Subscript (.Name par p1) (.Constant (.int (n : Int)) j p2) p3) scope (keyItem X.K n) := by
  refine ⟨fun pins s σ H x u k I rx hr A L' f c' h1 tk kp hns => ?_⟩
  obtain ⟨t, ys, ex, hsq, hy⟩ := hr
  subst ex
  cases (show u = Value.ref t from rx)
  have hit : ∃ its : List Value, Vals ys its ∧ IsTup h1 t its.toArray ∧ ys.length ≤ sizeLine := by
    rcases hsq with z | z
    · obtain ⟨hz, its, r, it⟩ := (show ObjOk X.prog X.w H h1 t (.tup ys) from rd_keepL I kp z)
      exact ⟨its, r, it, hz⟩
    · obtain ⟨its, r, ⟨o, ho, hc, n', hd⟩, hz⟩ := I.tuple (.inr z)
      refine ⟨its, r, ⟨o, kp _ _ ho ?_, hc, n', hd⟩, hz⟩
      intro zz
      obtain ⟨mL, ⟨oL, _, _, eL, dL, _⟩, _⟩ := I.loc
      rw [← zz, ho] at eL
      cases eL
      rw [hd] at dL
      cases dL
  obtain ⟨its, r, it, hz⟩ := hit
  obtain ⟨w2, hw, rw2⟩ := r.get hy
  obtain ⟨t', rfl⟩ := (show ∃ t, w2 = Value.int k t from rw2)
  have hl := r.length
  have hlt : n < ys.length := (List.getElem?_eq_some_iff.mp hy).1
  have hn63 := line63
  refine Subscript_ (wpAny_Name (wpAny_loadName_local lp.kind lp.par hns (v := Value.ref t) ?_ (wpAny_Constant_int ?_)) n2)
  · show ([(par, Value.ref t)] : List (Str × Value)).reverse.lookup par = some (Value.ref t)
    simp [List.lookup]
  · exact subscriptTail_builtinR (x := Value.int k t') it.typeIs slot_tuple_getitem.lookup
      (getItem_tuple (j := n) (Q := fun r s' => r = Value.int k t' ∧ ∃ t1 tk', r = Value.int k t1 ∧ s' = { s with heap := h1, toks := tk' }) it (by omega) (by omega)
        (by rw [List.size_toArray, ← hl, seqIndex_of (by omega) (by omega)]; simp) (by simpa using hw) ⟨rfl, t', _, rfl, rfl⟩) rfl
end OwnR

set_option Elab.async false
set_option linter.all false
set_option maxRecDepth 100000
set_option maxHeartbeats 2000000
namespace OwnR
open PySem PySem.Spec PyProof.Rows L2
section
variable {X : Cx} {CX : CXT} {k : Nat} {g C : Addr} {sp : Sp} {E : XK}
/-! ### y in x, y not in x: x an instance of C, which has __contains__ -/
def rInO (C : Addr) (sp : Sp) (E : XK) (neg : Bool) : R2 := fun x y H Q => ∃ a dx fs, y = .ref a ∧ H a = some (.ins C dx fs) ∧ sp [.ref a, x] H (fun z H' => ∃ b, z = .bl b ∧ Q (.bl (b != neg)) H') E
theorem op_inO (hs : PySem.W.findIn X.K (.ref C) "__contains__" = some (some (.ref g))) (hf : PySem.W.isFn X.K (.ref g) = true) (F : FnR X.prog X.w X.K X.mg X.base CX k g sp) (hr : Room k X.A) (hx : Passes CX X E) : OpR X (compareOp .In) (rInO C sp E false) := by
  intro pins s σ H x y v u Q I rx ry h
  obtain ⟨a, dx, fs, rfl, ha, q⟩ := h
  cases (show u = Value.ref a from ry)
  obtain ⟨ox, od, J, hd⟩ := StX.insC_at I (.inr ⟨dx, fs, ha⟩)
  obtain ⟨m, hF⟩ := I.fr
  refine PySem.W.in_K hF I.ok.mod.kin J hs hf (thn (wpAny_call (run_fnR (us := [.ref a, v]) (vs := [.ref a, x]) F hr hx I (.cons rfl (.cons rx .nil)) q)) fun w' s' hq => ?_)
  obtain ⟨z, H', I', rz, b, ez, qz⟩ := hq
  subst ez
  cases (show w' = Value.bool b from rz)
  exact wpAny_truthy_bool ⟨.bl b, H', I', rfl, by simpa using qz⟩
theorem op_notInO (hs : PySem.W.findIn X.K (.ref C) "__contains__" = some (some (.ref g))) (hf : PySem.W.isFn X.K (.ref g) = true) (F : FnR X.prog X.w X.K X.mg X.base CX k g sp) (hr : Room k X.A) (hx : Passes CX X E) : OpR X (compareOp .NotIn) (rInO C sp E true) := by
  intro pins s σ H x y v u Q I rx ry h
  obtain ⟨a, dx, fs, rfl, ha, q⟩ := h
  cases (show u = Value.ref a from ry)
  obtain ⟨ox, od, J, hd⟩ := StX.insC_at I (.inr ⟨dx, fs, ha⟩)
  obtain ⟨m, hF⟩ := I.fr
  refine PySem.W.notIn_K hF I.ok.mod.kin J hs hf (thn (wpAny_call (run_fnR (us := [.ref a, v]) (vs := [.ref a, x]) F hr hx I (.cons rfl (.cons rx .nil)) q)) fun w' s' hq => ?_)
  obtain ⟨z, H', I', rz, b, ez, qz⟩ := hq
  subst ez
  cases (show w' = Value.bool b from rz)
  exact wpAny_truthy_bool ⟨.bl (!b), H', I', rfl, by simpa using qz⟩
/-! ### o[i]: o an instance of C, which has __getitem__ -/
def tSubO (C : Addr) (sp : Sp) (E : XK) (to ti : TE) : TE := fun σ H Q => to σ H fun x H1 => ti σ H1 fun y H2 => ∃ a dx fs, x = .ref a ∧ H2 a = some (.ins C dx fs) ∧ sp [.ref a, y] H2 Q E
theorem pe_subO {o i : Expr} {pos : Pos} {to ti : TE} (hs : PySem.W.findIn X.K (.ref C) "__getitem__" = some (some (.ref g))) (hf : PySem.W.isFn X.K (.ref g) = true) (hfi : PySem.W.fnIn X.K g = true) (F : FnR X.prog X.w X.K X.mg X.base CX k g sp) (hr : Room (k + 1) X.A) (hx : Passes CX X E)
    (ho : PE X o to) (hi : PE X i ti) (hsl : ∀ a v, subscripted i true (.ref a) v = runValue (.builtin "lifetime.subscript" ⟨[.ref a, v], []⟩) := by intros; with_unfolding_all rfl) : PE X (.Subscript o i pos) (tSubO C sp E to ti) := by
  refine ⟨fun pins s σ H Q I h => ?_⟩
  refine Subscript_ (thn (ho.run pins s σ H _ I h) fun u s1 ⟨x, H1, I1, rx, q1⟩ => thn (hi.run pins s1 σ H1 _ I1 q1) fun iv s2 ⟨y, H2, I2, ry, a, dx, fs, ex, ha, q⟩ => ?_)
  subst ex
  cases (show u = Value.ref a from rx)
  obtain ⟨ox, od, J, hd⟩ := StX.insC_at I2 (.inr ⟨dx, fs, ha⟩)
  obtain ⟨m, hF⟩ := I2.fr
  exact PySem.W.sub_K hF I2.ok.mod.kin J hs hfi hf (wpAny_call (SlX.run_at (us := [.ref a, iv]) (ws := [.ref a, y]) F hr.in1 I2.env0.in1 hx I2 (.cons rfl (.cons ry .nil)) q)) (hsl a iv)
/-! ### len(o) -/
def rLenO (C : Addr) (sp : Sp) (E : XK) : List V → Hp → VK → Prop := fun xs H Q => ∃ a dx fs, xs = [V.ref a] ∧ H a = some (.ins C dx fs) ∧ sp [.ref a] H (fun z H' => ∃ n : Nat, z = .int (n : Int) ∧ n ≤ sizeLine ∧ Q (.int (n : Int)) H') E
theorem call_lenO (hs : PySem.W.findIn X.K (.ref C) "__len__" = some (some (.ref g))) (hf : PySem.W.isFn X.K (.ref g) = true) (F : FnR X.prog X.w X.K X.mg X.base CX k g sp) (hr : Room (k + 1) X.A) (hx : Passes CX X E) : CallR X (.builtin "len") (rLenO C sp E) := by
  intro pins s σ H xs us Q I r h
  obtain ⟨a, dx, fs, rfl, ha, q⟩ := h
  obtain ⟨u, rfl, ru⟩ := r.one
  cases (show u = Value.ref a from ru)
  obtain ⟨ox, od, J, hd⟩ := StX.insC_at I (.inr ⟨dx, fs, ha⟩)
  obtain ⟨m, hF⟩ := I.fr
  refine PySem.W.len_K hF I.ok.mod.kin J hs hf (thn (wpAny_call (SlX.run_at (us := [.ref a]) (ws := [.ref a]) F hr.in1 I.env0.in1 hx I (.cons rfl .nil) q)) fun w' s' hq => ?_)
  obtain ⟨z, H', I', rz, n, ez, hn, qz⟩ := hq
  subst ez
  obtain ⟨t, e⟩ := (show ∃ t, w' = Value.int (n : Int) t from rz)
  cases e
  have := line63
  exact ⟨⟨by omega, by omega⟩, .int (n : Int), H', I'.tok _, ⟨_, rfl⟩, qz⟩
/-! ### a + b, both of C, which has __add__ -/
def rAddO (C : Addr) (sp : Sp) (E : XK) : R2 := fun x y H Q => ∃ a dx fs b dy gs, x = .ref a ∧ y = .ref b ∧ H a = some (.ins C dx fs) ∧ H b = some (.ins C dy gs) ∧ sp [.ref a, .ref b] H Q E
theorem op_addO (hc : PySem.W.selfFirst X.K C = true) (hs : PySem.W.findIn X.K (.ref C) (PySem.dunder (Operator.info .Add).2) = some (some (.ref g))) (hf : PySem.W.isFn X.K (.ref g) = true) (F : FnR X.prog X.w X.K X.mg X.base CX k g sp) (hr : Room k X.A) (hx : Passes CX X E) : OpR X (binaryOp .Add) (rAddO C sp E) := by
  intro pins s σ H x y v u Q I rx ry h
  obtain ⟨a, dx, fs, b, dy, gs, rfl, rfl, ha, hb, q⟩ := h
  cases (show v = Value.ref a from rx)
  cases (show u = Value.ref b from ry)
  obtain ⟨ox, od, J, hd⟩ := StX.insC_at I (.inr ⟨dx, fs, ha⟩)
  obtain ⟨oy, od', J', hd'⟩ := StX.insC_at I (.inr ⟨dy, gs, hb⟩)
  obtain ⟨m, hF⟩ := I.fr
  refine PySem.W.binop_K (op := .Add) hF I.ok.mod.kin J J'.type hc hs hf (thn (wpAny_call (run_fnR (us := [.ref a, .ref b]) (vs := [.ref a, .ref b]) F hr hx I (.cons rfl (.cons rfl .nil)) q)) fun w' s' hq => ?_)
  obtain ⟨z, H', I', rz, qz⟩ := hq
  exact SlX.cmpback rz ⟨z, H', I', rz, qz⟩
/-! ### x(*y), x a slot that holds the class C -/
def tMakeLS (K : PySem.W.Frag) (C : Addr) (sp : Sp) (E : XK) (tf te : TE) : TE := fun σ H Q => tf σ H fun z H0 => z = .ref C ∧ te σ H0 fun y H1 => ∃ a xs, y = V.ref a ∧ (SqT K H1 a xs ∨ SqL K H1 a xs) ∧ ∀ x dx, H1 x = none → H1 dx = none → dx ≠ x →
  sp (V.ref x :: xs) (upd (upd H1 dx (.own x)) x (.ins C dx [])) (fun v H2 => v = .non ∧ Q (.ref x) H2) E
theorem pe_makeLS {x : Str} {e : Expr} {p p2 pos : Pos} {tf te : TE} {f : Addr} (M : Mk X.K C f) (F : FnR X.prog X.w X.K X.mg X.base CX k f sp) (hr : Room (k + 1) X.A) (hx : Passes CX X E) (hf : PE X (.Name x p) tf) (he : PE X e te)
    (hst : starEach [.Starred e p2] X.env = [(true, eval e X.env)] := by rfl) : PE X (.Call (.Name x p) [.Starred e p2] [] pos) (tMakeLS X.K C sp E tf te) := by
  refine ⟨fun pins s σ H Q I h => ?_⟩
  refine wpAny_Call_Name_kw (thn (hf.run pins s σ H _ I h) fun u s0 ⟨z, H0, I0, rz, ez, q0⟩ => ?_)
  subst ez
  cases (show u = Value.ref C from rz)
  refine PySem.W.callWith_S (h₀ := X.base) I.ok.mod.kin M.kp (thn (he.run pins s0 σ H0 _ I0 q0) fun v s1 ⟨y, H1, I1, ry, a, xs, ey, hxs, q⟩ => ?_) hst
  subst ey
  cases (show v = Value.ref a from ry)
  exact StX.star_any I1 hxs fun us s2 I2 rv => ⟨I2.kIn, StX.run_makeR M F hr hx I2 rv q⟩
end
/-- x(*y), x a class of the module -/
theorem pe_makeGS {X : Cx} {CX : CXT} {k : Nat} {C : Addr} {sp : Sp} {E : XK} {x : Str} {e : Expr} {p p2 pos : Pos} {te : TE} {f : Addr} (M : Mk X.K C f) (F : FnR X.prog X.w X.K X.mg X.base CX k f sp) (hr : Room (k + 1) X.A) (hx : Passes CX X E) (hg : Gl X x) (hm : X.mg x = some (.ref C)) (he : PE X e te)
    (hdb : (x == ("__debug__" : Str)) = false := by decide) (hst : starEach [.Starred e p2] X.env = [(true, eval e X.env)] := by rfl) : PE X (.Call (.Name x p) [.Starred e p2] [] pos) (tMakeLS X.K C sp E (tC (.ref C)) te) :=
  pe_makeLS M F hr hx (pe_glob hg hm rfl hdb) he hst
/-! ### xs[i] op= e, xs a list -/
theorem pg_list {X : Cx} : PGet X (rIxL X.K) := by
  intro pins s σ H x y v u Q I rx ry h
  obtain ⟨p, xs, i, z, rfl, rfl, hq, he, q⟩ := h
  cases (show v = Value.ref p from rx)
  obtain ⟨t, rfl⟩ := (show ∃ t, u = Value.int i t from ry)
  obtain ⟨its, r, pl, hz⟩ := I.list hq
  obtain ⟨j, h1, h2, h3, h4, h5⟩ := atI_get he
  obtain ⟨w, ew, rw'⟩ := r.get h2
  have hl := r.length
  have hn := line63
  have fin : EP X pins σ Q w s := ⟨z, H, I, rw', q⟩
  by_cases h0 : 0 ≤ i
  · have hj : i.toNat = j := by
      rw [seqIndex_of h0 h5] at h1
      exact Option.some.inj h1
    exact wpAny_getItem_list pl.isList h0 (by omega) (by rw [hj]; simpa using ew) fin
  · have hj : (i + (its.toArray.size : Int)).toNat = j := by
      rw [seqIndex_neg (by omega) h4] at h1
      rw [List.size_toArray, ← hl]
      exact Option.some.inj h1
    exact wpAny_getItem_list_neg pl.isList (by omega) (by rw [List.size_toArray] <;> omega) (by omega) (by rw [hj]; simpa using ew) fin
end OwnR

set_option Elab.async false
set_option linter.all false
set_option maxRecDepth 100000
namespace Sl
open PySem L2
def top (i : Nat) : Stmt := PySem.Challenge.pw_slowleaders_k43_positions.main.body.getD i (.Pass ⟨0, 0, 0, 0⟩)
abbrev sRoadError : Stmt := top 3
abbrev sInvalidRoad : Stmt := top 4
abbrev sInvalidRoadInit : Stmt := inClass sInvalidRoad 0
abbrev sInvalidCars : Stmt := top 5
abbrev sInvalidCarsInit : Stmt := inClass sInvalidCars 0
abbrev sInvalidNumber : Stmt := top 6
abbrev sUnknownCar : Stmt := top 7
abbrev sUnknownCarInit : Stmt := inClass sUnknownCar 0
abbrev sUnknownSection : Stmt := top 8
abbrev sUnknownSectionInit : Stmt := inClass sUnknownSection 0
abbrev sInvalidName : Stmt := top 9
abbrev sTooManyCars : Stmt := top 10
abbrev sInvalidKind : Stmt := top 11
abbrev sAlreadyOpen : Stmt := top 12
abbrev sInvalidOperation : Stmt := top 13
abbrev sInvalidOperationInit : Stmt := inClass sInvalidOperation 0
abbrev sContradiction : Stmt := top 14
abbrev sInvalidArrivals : Stmt := top 15
abbrev sInvalidArrivalsInit : Stmt := inClass sInvalidArrivals 0
abbrev sNotationError : Stmt := top 16
abbrev sNotationErrorInit : Stmt := inClass sNotationError 0
abbrev sInvalidCount : Stmt := top 17
abbrev sDecodeError : Stmt := top 18
abbrev sDecodeErrorInit : Stmt := inClass sDecodeError 0
abbrev sIsNumber : Stmt := top 25
abbrev sIsName : Stmt := top 26
abbrev sIsCar : Stmt := top 27
abbrev sCheckCars : Stmt := top 28
abbrev sCheckKnown : Stmt := top 29
abbrev sCheckNewName : Stmt := top 30
abbrev sInOrder : Stmt := top 32
abbrev sFollow : Stmt := top 33
abbrev sDriveAll : Stmt := top 34
abbrev sDrive : Stmt := top 35
abbrev sDInit : Stmt := inClass sDrive 0
abbrev sDCheckCar : Stmt := inClass sDrive 1
abbrev sDCheckPlace : Stmt := inClass sDrive 2
abbrev sDCheckSection : Stmt := inClass sDrive 3
abbrev sDGet : Stmt := inClass sDrive 4
abbrev sDCall : Stmt := inClass sDrive 5
abbrev sDHas : Stmt := inClass sDrive 6
abbrev sDLen : Stmt := inClass sDrive 7
abbrev sDOrderAt : Stmt := inClass sDrive 9
abbrev sDLeader : Stmt := inClass sDrive 10
abbrev sDRowsOf : Stmt := inClass sDrive 11
abbrev sDOvertakings : Stmt := inClass sDrive 12
abbrev sDLosses : Stmt := inClass sDrive 13
abbrev sAheadInside : Stmt := top 37
abbrev sLeast : Stmt := top 38
abbrev sPositionAt : Stmt := top 39
abbrev sIsSection : Stmt := top 46
abbrev sUnitsOf : Stmt := top 47
abbrev sRuns : Stmt := top 48
abbrev sRoad : Stmt := top 49
abbrev sRInit : Stmt := inClass sRoad 0
abbrev sROfUnits : Stmt := inClass sRoad 1
abbrev sRSections : Stmt := inClass sRoad 2
abbrev sRUnits : Stmt := inClass sRoad 3
abbrev sRWidened : Stmt := inClass sRoad 4
abbrev sRLen : Stmt := inClass sRoad 5
abbrev sRGet : Stmt := inClass sRoad 6
abbrev sRHas : Stmt := inClass sRoad 8
abbrev sRAdd : Stmt := inClass sRoad 9
abbrev sRMul : Stmt := inClass sRoad 10
abbrev sREq : Stmt := inClass sRoad 11
abbrev sArrivals : Stmt := top 51
abbrev sChanges : Stmt := top 52
abbrev sJoin : Stmt := top 53
abbrev sRemove : Stmt := top 54
abbrev sSetKind : Stmt := top 55
abbrev sIsOperation : Stmt := top 58
abbrev sExecute : Stmt := top 59
abbrev sLiveRoad : Stmt := top 60
abbrev sLiveRoadInit : Stmt := inClass sLiveRoad 0
abbrev sLiveRoadJoin : Stmt := inClass sLiveRoad 1
abbrev sLiveRoadRemove : Stmt := inClass sLiveRoad 2
abbrev sLiveRoadSetKind : Stmt := inClass sLiveRoad 3
abbrev sLiveRoadApply : Stmt := inClass sLiveRoad 4
abbrev sLiveRoadReplay : Stmt := inClass sLiveRoad 5
abbrev sLiveRoadUndo : Stmt := inClass sLiveRoad 6
abbrev sLiveRoadRedo : Stmt := inClass sLiveRoad 7
abbrev sLiveRoadCheckNoBlock : Stmt := inClass sLiveRoad 8
abbrev sLiveRoadEnter : Stmt := inClass sLiveRoad 9
abbrev sLiveRoadExit : Stmt := inClass sLiveRoad 10
abbrev sLiveRoadArrivalsAfter : Stmt := inClass sLiveRoad 11
abbrev sLiveRoadDrive : Stmt := inClass sLiveRoad 12
abbrev sLiveRoadPosition : Stmt := inClass sLiveRoad 13
abbrev sLiveRoadPresentRoad : Stmt := inClass sLiveRoad 14
abbrev sLiveRoadPresentCars : Stmt := inClass sLiveRoad 15
abbrev sLiveRoadHistory : Stmt := inClass sLiveRoad 16
abbrev sLiveRoadContains : Stmt := inClass sLiveRoad 17
abbrev sLiveRoadLen : Stmt := inClass sLiveRoad 18
abbrev sTaken : Stmt := top 62
abbrev sAlike : Stmt := top 63
abbrev sRaised : Stmt := top 64
abbrev sSections : Stmt := top 65
abbrev sLRoad : Stmt := top 66
abbrev sJoined : Stmt := top 67
abbrev sCars : Stmt := top 68
abbrev sLDrive : Stmt := top 69
abbrev sDivisor : Stmt := top 70
abbrev sPosition : Stmt := top 71
abbrev sLaw : Stmt := top 72
end Sl

set_option Elab.async false
set_option linter.all false
set_option maxRecDepth 100000
set_option maxHeartbeats 1000000
namespace Sl
open PySem PySem.Spec L2 OwnR
theorem yes_of {σ : L2.St} {H : Hp} {A S : Hp → Prop} (h : A H) : tYes σ H (fun b H3 => if b = true then A H3 else S H3) := by
  show (if true = true then A H else S H)
  rw [if_pos rfl]
  exact h
/-- the module's names that the program asks: built-ins that stand, its constants -/
structure Mg (mg : Str → Option Value) : Prop where
  isinstance : mg "isinstance" = none
  int : mg "int" = none
  bool : mg "bool" = none
  str : mg "str" = none
  tuple : mg "tuple" = none
  len : mg "len" = none
  all : mg "all" = none
  enumerate : mg "enumerate" = none
  sorted : mg "sorted" = none
  list : mg "list" = none
  range : mg "range" = none
  sum : mg "sum" = none
  mostCars : ∃ t, mg "MOST_CARS" = some (.int 10 t)
  longestName : ∃ t, mg "LONGEST_NAME" = some (.int 8 t)
  latestStart : ∃ t, mg "LATEST_START" = some (.int 1000000 t)
  slowestPace : ∃ t, mg "SLOWEST_PACE" = some (.int 60 t)
  mostSections : ∃ t, mg "MOST_SECTIONS" = some (.int 12 t)
  longestSection : ∃ t, mg "LONGEST_SECTION" = some (.int 99 t)
theorem boot_isinstance : bootBuiltins "isinstance" = some (.builtin "isinstance") := by decide +kernel
theorem boot_tInt : bootBuiltins "int" = some (.type "int") := by decide +kernel
theorem boot_tBool : bootBuiltins "bool" = some (.type "bool") := by decide +kernel
theorem boot_tStr : bootBuiltins "str" = some (.type "str") := by decide +kernel
theorem boot_tTuple : bootBuiltins "tuple" = some (.type "tuple") := by decide +kernel
theorem boot_all : bootBuiltins "all" = some (.builtin "all") := by decide +kernel
section
variable {P : Program} {w : World} {K : PySem.W.Frag} {mg : Str → Option Value} {base : Heap}
/-! ### is_number of an int -/
def spIsNumber : Sp := fun vs H Q _ => ∃ i lo hi : Int, vs = [.int i, .int lo, .int hi] ∧ Q (.bl (decide (lo ≤ i) && decide (i ≤ hi))) H
theorem scIsNumber : FnScope ["value", "least", "most"] ["value", "least", "most"] (defScope sIsNumber) := ⟨rfl, rfl, rfl, by decide +kernel, rfl, by decide +kernel, by decide +kernel⟩
theorem ok_isNumber {f : Addr} {fd : FuncData} (F : Fun K "is_number" "is_number" sIsNumber f fd) (M : Mg mg) : FnOk P w K mg base CX0 1 f fd ["value", "least", "most"] spIsNumber := by
  refine F.ok scIsNumber (fun vs H Q E h => ?_) (fun cdv A outer s H vs Q E hr h => ?_)
  · obtain ⟨i, lo, hi, rfl, _⟩ := h
    rfl
  · obtain ⟨i, lo, hi, rfl, k⟩ := h
    refine ⟨_, pss_one (ps_ret (pe_and (pe_callB call_isi (by rfl) M.isinstance boot_isinstance (pa_cons (pv 0) (pa_cons (pe_bltn (v := .ty "int") (by rfl) M.int boot_tInt rfl) pa_nil)))
      (pe_and (pe_not (pe_callB call_isi (by rfl) M.isinstance boot_isinstance (pa_cons (pv 0) (pa_cons (pe_bltn (v := .ty "bool") (by rfl) M.bool boot_tBool rfl) pa_nil))))
        (pe_one (pe_chain op_le op_le (pv 1) (pv 0) (pv 2)))))), ?_⟩
    refine ⟨_, rfl, _, _, _, _, true, rfl, .ty _, .base (.int i), kit_ty (by decide +kernel), true, rfl, iteT ?_⟩
    refine ⟨_, rfl, _, _, _, _, false, rfl, .ty _, .base (.int i), kit_ty (by decide +kernel), false, rfl, true, rfl, iteT ?_⟩
    refine ⟨_, rfl, _, rfl, lo, i, rfl, rfl, _, rfl, ?_⟩
    by_cases h1 : lo ≤ i
    · rw [decide_eq_true h1] at k ⊢
      exact iteT ⟨_, rfl, i, hi, rfl, rfl, by simpa using k⟩
    · rw [decide_eq_false h1] at k ⊢
      exact iteF (by simpa using k)
theorem lt_one (a b : Nat) : decide ([a] < [b]) = decide (a < b) := by
  rw [decide_eq_decide]
  simp [List.cons_lt_cons_iff]
/-! ### is_name of a text that is a name -/
def NameOk (z : Str) : Prop := 1 ≤ z.length ∧ z.length ≤ 8 ∧ ∀ c ∈ z.cps.toList, 97 ≤ c ∧ c ≤ 122
def spIsName : Sp := fun vs H Q _ => ∃ z : Str, vs = [.str z] ∧ NameOk z ∧ ∀ H', Same H H' → Q (.bl true) H'
theorem scIsName : FnScope ["value", "letter"] ["value"] (defScope sIsName) := ⟨rfl, rfl, rfl, by decide +kernel, rfl, by decide +kernel, by decide +kernel⟩
theorem ok_isName {f : Addr} {fd : FuncData} (F : Fun K "is_name" "is_name" sIsName f fd) (M : Mg mg) : FnOk P w K mg base CX0 1 f fd ["value"] spIsName := by
  obtain ⟨t8, M8⟩ := M.longestName
  refine F.ok scIsName (fun vs H Q E h => ?_) (fun cdv A outer s H vs Q E hr h => ?_)
  · obtain ⟨z, rfl, _⟩ := h
    rfl
  · obtain ⟨z, rfl, ⟨z1, z8, zc⟩, k⟩ := h
    have nd := scIsName.nd
    refine ⟨_, pss_cons (ps_if (PW.pt (pw_or (pt_not (pt_val (pe_callB call_isi (by rfl) M.isinstance boot_isinstance (pa_cons (pv 0) (pa_cons (pe_bltn (v := .ty "str") (by rfl) M.str boot_tStr rfl) pa_nil)))))
        (pw_or1 (pt_not (pt_chain op_le op_le pe_int (pe_callB call_len_str (by rfl) M.len boot_len (pa_cons (pv 0) pa_nil)) (pe_glob (v := .int 8) (by rfl) M8 ⟨_, rfl⟩)))))) (pss_one (ps_ret pe_bl)) pss_nil)
      (pss_one (ps_ret (pe_callB (cr_all rfl) (by rfl) M.all boot_all (pa_cons (pe_lc (own := [("letter", 1)]) (g := gName 1) (tt := tYes) (by rfl) nd (pi_str (pv 0)) (blkOk_by (N := ["value", "letter"]) (sc := defScope sIsName) (by decide +kernel))
        (fun _ _ _ _ _ => pg_name (i := 1) nd rfl (Or.inl rfl)) (fun _ _ _ _ _ => pts_nil) (fun _ _ _ _ _ => pe_chain op_le_str op_le_str pe_str (pv 1) pe_str)) pa_nil)))), ?_⟩
    have hz : z.length ≤ sizeLine := Nat.le_trans z8 (by decide)
    have e1 : decide ((1 : Int) ≤ (z.length : Nat)) = true := decide_eq_true (by omega)
    have e8 : decide (((z.length : Nat) : Int) ≤ 8) = true := decide_eq_true (by omega)
    refine ⟨_, rfl, _, _, _, _, true, rfl, .ty _, .base (.str z), kit_ty (by decide +kernel), true, rfl, iteF ?_⟩
    refine ⟨_, rfl, z, rfl, hz, 1, (z.length : Nat), rfl, rfl, _, rfl, ?_⟩
    rw [e1]
    refine iteT ⟨(z.length : Nat), 8, rfl, rfl, true, congrArg V.bl e8, iteF ?_⟩
    refine ⟨_, rfl, z, rfl, fun D hD => lc_it walk_str (fun i H1 => (∀ b o, H b = some o → H1 b = some o) ∧ H1 D = some (.lst (List.replicate i (.bl true)))) ⟨fun b o e => by rw [upd_ne (ne_of_none e hD)]; exact e, upd_same⟩ (fun _ _ _ _ => True.intro) ?_ ?_⟩
    · rintro i x H1 H2 hi ⟨hk, hl⟩ ⟨e, c, hc, ex⟩
      subst e ex
      have hm : c ∈ z.cps.toList := by
        rw [Array.mem_toList_iff]
        exact Array.mem_of_getElem? hc
      have g1 : (!decide ((⟨#[c]⟩ : Str).cps.toList < ("a" : Str).cps.toList)) = true := by
        have e2 : ("a" : Str).cps.toList = [97] := by decide +kernel
        rw [e2]
        have := (zc c hm).1
        show (!decide (([c] : List Nat) < [97])) = true
        rw [lt_one, decide_eq_false (by omega)]
        rfl
      have g2 : (!decide (("z" : Str).cps.toList < (⟨#[c]⟩ : Str).cps.toList)) = true := by
        have e2 : ("z" : Str).cps.toList = [122] := by decide +kernel
        rw [e2]
        have := (zc c hm).2
        show (!decide (([122] : List Nat) < [c])) = true
        rw [lt_one, decide_eq_false (by omega)]
        rfl
      refine ⟨rfl, ?_⟩
      refine yes_of ?_
      refine ⟨_, rfl, _, _, rfl, rfl, true, congrArg V.bl g1, ?_⟩
      refine iteT ?_
      refine ⟨_, _, rfl, rfl, ?_⟩
      rw [g2]
      refine ⟨_, hl, ?_, fun b o e => by rw [upd_ne (ne_of_none e hD)]; exact hk b o e, ?_⟩
      · rw [List.length_replicate]
        have : z.cps.size ≤ 8 := z8
        exact Nat.lt_of_lt_of_le (Nat.lt_of_lt_of_le hi this) (by decide)
      · rw [upd_same, ← List.replicate_succ']
    · rintro H1 ⟨hk, hl⟩
      refine ⟨D, List.replicate z.cps.size true, rfl, ?_, ?_⟩
      · rw [List.map_replicate]
        exact SqL.of hl
      · have e3 : (List.replicate z.cps.size true).all id = true := by simp
        rw [e3]
        exact k H1 hk
end
end Sl

set_option Elab.async false
set_option linter.all false
set_option maxRecDepth 100000
set_option maxHeartbeats 1000000
namespace Sl
open PySem PySem.Spec L2 OwnR
/-- a def of the module, as callers want it -/
structure Fb (K : PySem.W.Frag) (mg : Str → Option Value) (x : Str) (st : Stmt) (ps : List Str) (f : Addr) (fd : FuncData) : Prop where
  fn : Fun K x x st f fd
  at_ : mg x = some (.ref f)
  bd : Binds K fd ps []
section
variable {P : Program} {w : World} {K : PySem.W.Frag} {mg : Str → Option Value} {base : Heap}
/-! ### is_car of a tuple that is a car -/
structure Car where
  name : Str
  start : Int
  pace : Int
def Car.vs (c : Car) : List V := [.str c.name, .int c.start, .int c.pace]
structure Car.Ok (c : Car) : Prop where
  nm : NameOk c.name
  s0 : 0 ≤ c.start
  s1 : c.start ≤ 1000000
  p0 : 1 ≤ c.pace
  p1 : c.pace ≤ 60
def spIsCar : Sp := fun vs H Q _ => ∃ (t : Addr) (c : Car), vs = [.ref t] ∧ H t = some (.tup c.vs) ∧ c.Ok ∧ ∀ H', Same H H' → Q (.bl true) H'
theorem scIsCar : FnScope ["value", "name", "start", "pace"] ["value"] (defScope sIsCar) := ⟨rfl, rfl, rfl, by decide +kernel, rfl, by decide +kernel, by decide +kernel⟩
theorem ok_isCar {f fN fB : Addr} {fd dN dB : FuncData} (F : Fb K mg "is_car" sIsCar ["value"] f fd) (M : Mg mg) (BN : Fb K mg "is_name" sIsName ["value"] fN dN) (BB : Fb K mg "is_number" sIsNumber ["value", "least", "most"] fB dB)
    (GN : FnOk P w K mg base CX0 1 fN dN ["value"] spIsName) (GB : FnOk P w K mg base CX0 1 fB dB ["value", "least", "most"] spIsNumber) : FnOk P w K mg base CX0 2 f fd ["value"] spIsCar := by
  obtain ⟨t1, M1⟩ := M.latestStart
  obtain ⟨t2, M2⟩ := M.slowestPace
  refine F.fn.ok scIsCar (fun vs H Q E h => ?_) (fun cdv A outer s H vs Q E hr h => ?_)
  · obtain ⟨t, c, rfl, _⟩ := h
    rfl
  · obtain ⟨t, c, rfl, ht, C, k⟩ := h
    have nd := scIsCar.nd
    refine ⟨_, pss_cons (ps_if (PW.pt (pw_or (pt_not (pt_val (pe_callB call_isi (by rfl) M.isinstance boot_isinstance (pa_cons (pv 0) (pa_cons (pe_bltn (v := .ty "tuple") (by rfl) M.tuple boot_tTuple rfl) pa_nil)))))
        (pw_or1 (pt_cmpR op_ne (pe_callB call_len_seq (by rfl) M.len boot_len (pa_cons (pv 0) pa_nil)) pe_int (nomark _))))) (pss_one (ps_ret pe_bl)) pss_nil)
      (pss_cons (ps_asg (pv 0) (pg_tup (by rfl) (pgs_cons (pg_name (i := 1) nd rfl (.inl rfl)) (pgs_cons (pg_name (i := 2) nd rfl (.inl rfl)) (pgs_cons (pg_name (i := 3) nd rfl (.inl rfl)) pgs_nil)))))
      (pss_one (ps_ret (pe_and (pe_call GN hr (by rfl) BN.at_ BN.fn.kp BN.bd .nil pass0 (pa_cons (pv 1) pa_nil))
        (pe_and (pe_call GB hr (by rfl) BB.at_ BB.fn.kp BB.bd .nil pass0 (pa_cons (pv 2) (pa_cons pe_int (pa_cons (pe_glob (v := .int 1000000) (by rfl) M1 ⟨_, rfl⟩) pa_nil))))
          (pe_one (pe_call GB hr (by rfl) BB.at_ BB.fn.kp BB.bd .nil pass0 (pa_cons (pv 3) (pa_cons pe_int (pa_cons (pe_glob (v := .int 60) (by rfl) M2 ⟨_, rfl⟩) pa_nil)))))))))), ?_⟩
    refine ⟨_, rfl, _, _, _, _, true, rfl, .ty _, .base (.tup ht), kit_ty (by decide +kernel), true, rfl, iteF ?_⟩
    refine ⟨_, rfl, t, _, rfl, .inr (SqT.of ht), rfl, false, rfl, iteF ?_⟩
    refine ⟨_, rfl, t, c.vs, rfl, SqT.of ht, rfl, _, _, rfl, _, _, rfl, _, _, rfl, rfl, ?_⟩
    refine ⟨_, rfl, c.name, rfl, C.nm, fun H1 s1 => ⟨true, rfl, iteT ?_⟩⟩
    refine ⟨_, rfl, c.start, 0, 1000000, rfl, true, ?_, iteT ?_⟩
    · rw [decide_eq_true C.s0, decide_eq_true C.s1]
      rfl
    refine ⟨_, rfl, c.pace, 1, 60, rfl, ?_⟩
    rw [decide_eq_true C.p0, decide_eq_true C.p1]
    exact k H1 s1
/-! ### check_cars of a tuple of cars -/
def CarsAt (H : Hp) (a : Addr) (cars : List Car) : Prop := ∃ ts : List Addr, H a = some (.tup (ts.map V.ref)) ∧ ts.length = cars.length ∧ ∀ (i : Nat) (t : Addr) (c : Car), ts[i]? = some t → cars[i]? = some c → H t = some (.tup c.vs)
structure CarsOk (cars : List Car) : Prop where
  all : ∀ c ∈ cars, c.Ok
  nd : (cars.map (·.name)).Nodup
  few : cars.length ≤ 10
theorem CarsAt.same {H H' : Hp} {a : Addr} {cars : List Car} (h : CarsAt H a cars) (e : Same H H') : CarsAt H' a cars := by
  obtain ⟨ts, h1, h2, h3⟩ := h
  exact ⟨ts, e _ _ h1, h2, fun i t c e1 e2 => e _ _ (h3 i t c e1 e2)⟩
end
end Sl

set_option Elab.async false
set_option linter.all false
set_option maxRecDepth 100000
set_option maxHeartbeats 2000000
namespace OwnR
open PySem PySem.Spec PyProof.Rows L2
/-! ### enumerate(t), t a tuple -/
abbrev enumObj (n : Nat) : Obj := { cls := .type "enumerate", data := .fields #[.none, .bool false, .ref n, rawInt 0, .none, .none] }
theorem enum_make {v : Value} {o : Obj} {G : Heap → Prop} (B : Begins v o G) : Meets (Builtin.«enumerate.__new__» ⟨[.type "enumerate", v], []⟩) (fun _ R s => G s.heap ∧ R (.ok (.ret (.ref (s.heap.push o).objs.size))) { s with heap := (s.heap.push o).push (enumObj s.heap.objs.size) }) := by
  refine .of_wp fun prog w A R s hs => ?_
  obtain ⟨hp, g, d, tk, os⟩ := s
  obtain ⟨hG, hR⟩ := hs
  have isE := sub_enumerate
  have it1 : ∀ {A' : Around} {E' Q' : Value → Shared → Prop}, Q' (.ref hp.objs.size) ⟨hp.push o, g, d, tk, os⟩ → wpAny (model prog w) A' (pyIter v) (fun a b => Q' a b) (fun a b => E' a b) ⟨hp, g, d, tk, os⟩ := fun q => B.iter prog w _ _ ⟨hp, g, d, tk, os⟩ _ hG q
  wp_walk using it1
  refine wpAny_stack_any fun st => wpAny_pure ?_
  split
  · rename_i c _ _ _ _ _
    cases (c == Value.type "enumerate") <;> (wp_walk using it1; exact ⟨_, rfl, hR⟩)
  · wp_walk using it1
    exact ⟨_, rfl, hR⟩
section
variable {prog : Program} {w : World} {A : Around} {E : Value → Shared → Prop} {s : Shared}
theorem enum_tuple {t : Addr} {items : Array Value} {Q : Value → Shared → Prop} (ht : s.heap.IsTuple t items)
    (h : ∀ h', IsEnum h' (s.heap.objs.size + 1) s.heap.objs.size 0 .none → h'.IsTupleIter s.heap.objs.size t 0 → (∀ b o, s.heap.get? b = some o → h'.get? b = some o) → Q (.ref (s.heap.objs.size + 1)) { s with heap := h' }) :
    wpAny (model prog w) A (call (.type "enumerate") [.ref t]) Q E s := by
  have sz : ∀ o : Obj, (s.heap.push o).objs.size = s.heap.objs.size + 1 := fun o => Heap.size_push ..
  refine callType_new F.called_enumerate (by decide) (F.typeCall_enumerate_1 _) (F.newCall_enumerate_1 _) (fun _ => F.args_object_init_2 _ _) F.entry_enumerate_new (enum_make (begins_tuple t items)) ⟨ht, ?_⟩
  have he : ((s.heap.push { cls := .type "tuple_iterator", data := .fields #[.ref t, .int 0 0] }).push (enumObj s.heap.objs.size)).get? (s.heap.objs.size + 1) = some (enumObj s.heap.objs.size) := by
    have q := Heap.get?_push_size (s.heap.push { cls := .type "tuple_iterator", data := .fields #[.ref t, .int 0 0] }) (o := enumObj s.heap.objs.size) rfl
    rw [sz] at q
    exact q
  show _ ∧ _
  rw [sz]
  exact ⟨⟨_, he, rfl⟩, h _ he ⟨_, Heap.get?_push_of_some _ (Heap.get?_push_size _ rfl), rfl, rfl⟩ fun b o x => Heap.get?_push_of_some _ (Heap.get?_push_of_some _ x)⟩
end
/-- the tuple at a as it stands at each turn, each item in a new pair -/
def IteT (K : PySem.W.Frag) (a : Addr) (N : Nat) : It :=
  ⟨fun i H => ∃ (xs : List V) (x : V), SqT K H a xs ∧ xs[i]? = some x ∧ xs.length = N,
   fun i H v H' => ∃ T x, v = .ref T ∧ H T = none ∧ H' = upd H T (.tup [.int (i : Nat), x]) ∧ ∀ xs, SqT K H a xs → xs[i]? = some x,
   fun i H => ∃ xs : List V, SqT K H a xs ∧ xs.length ≤ i ∧ xs.length = N⟩
theorem tup_ne {h : Heap} {a it : Addr} {items : Array Value} {i : Nat} (p : h.IsTuple a items) (q : h.IsTupleIter it a i) : a ≠ it := by
  intro e
  obtain ⟨o, ho, hc, _⟩ := p
  obtain ⟨o', ho', hc', _⟩ := q
  rw [e, ho'] at ho
  cases ho
  rw [hc'] at hc
  injection hc with z
  exact absurd z (by decide)
theorem turn_enumT {P : Program} {w : World} {K : PySem.W.Frag} {elts : List Expr} {kk : Nat} {tpos : Pos} (a e it : Addr) (N : Nat) (nea : e ≠ a) :
    Turn P w K (.Tuple elts kk tpos) (IteT K a N) [e, it] e (fun i h => (∃ old, IsEnum h e it ((i : Nat) : Int) old) ∧ h.IsTupleIter it a i ∧ e ≠ it ∧ i ≤ N) where
  mem := List.mem_cons_self
  obj := fun i h st b hb => by
    obtain ⟨⟨old, he⟩, ⟨o, ho, hc, hd⟩, _⟩ := st
    rcases List.mem_cons.mp hb with z | z
    · exact ⟨_, by rw [z]; exact he, fun v q => by cases q⟩
    · exact ⟨o, by rw [List.mem_singleton.mp z]; exact ho, fun v q => by rw [hd] at q; cases q⟩
  keep := fun i h h' st k => by
    obtain ⟨⟨old, he⟩, ⟨o, ho, r⟩, hne, le⟩ := st
    exact ⟨⟨old, k e (by simp) _ he⟩, ⟨o, k it (by simp) o ho, r⟩, hne, le⟩
  item := by
    intro X hP hw hK hc i pins s σ H E I hf st hg
    subst hP hw hK
    obtain ⟨⟨old, he⟩, hit, hne, le⟩ := st
    obtain ⟨xs, x, hq, hx, eN⟩ := hg
    obtain ⟨its, rv, p, hz⟩ := I.tuple hq
    obtain ⟨u, hu, ru⟩ := rv.get hx
    have lo : i < its.toArray.size := by
      rw [List.size_toArray]
      exact (List.getElem?_eq_some_iff.mp hu).1
    have hel : e < s.heap.objs.size := Heap.lt_size he
    have hil : it < s.heap.objs.size := by
      obtain ⟨_, q, _⟩ := hit
      exact Heap.lt_size q
    have hd : X.A.in1.handled = none := I.ok.hd hc
    have D := Draws.tuple (prog := X.prog) (w := X.w) hd it a (tup_ne p hit) its.toArray
    refine wpAny_pyNext_enum_itemC D he ⟨hit, p⟩ lo hne (by simp [hne, nea]) fun y h' tk hy ho st2 hT hsz hk => ⟨_, rfl, wpAny_letOwnedTupleGo_enum (s := { s with heap := h', toks := tk + 1 }) ho fun h2 he2 sb => ?_⟩
    have ey : y = u := by
      have hy : its.toArray[i]? = some y := hy
      have : its[i]? = some y := by simpa using hy
      rw [hu] at this
      exact (Option.some.inj this).symm
    subst ey
    have hT2 : h2.get? s.heap.objs.size = some { cls := .type "tuple", data := .seq #[.int i tk, y] } := (sb.2 _ (Nat.ne_of_gt hel)).trans hT
    have new : ObjOk X.prog X.w (upd H s.heap.objs.size (.tup [.int (i : Nat), x])) h2 s.heap.objs.size (.tup [.int (i : Nat), x]) :=
      ⟨by show 2 ≤ sizeLine; decide, [.int i tk, y], .cons ⟨_, rfl⟩ (.cons ru .nil), ⟨_, hT2, rfl, _, rfl⟩⟩
    have J : Inv X pins σ (upd H s.heap.objs.size (.tup [.int (i : Nat), x])) { s with heap := h2, toks := tk + 1 } :=
      I.turnedNew (ch := [e, it]) (fun b ob hb q => (sb.2 b (fun z => hb (by simp [z]))).trans (hk b ob (fun z => hb (by simp [z])) (fun z => hb (by simp [z])) q)) hf (Nat.le_refl _) new
    have hi2 : h2.IsTupleIter it a (i + 1) := by
      obtain ⟨⟨o, h1, h3⟩, _⟩ := st2
      exact ⟨o, (sb.2 it (Ne.symm hne)).trans h1, h3⟩
    refine ⟨.ref s.heap.objs.size, _, J, rfl, ⟨_, x, rfl, I.hok.fresh (Nat.le_refl _), rfl, fun ys hy => by rw [I.tuple_inj hy hq]; exact hx⟩, ⟨⟨y, ?_⟩, hi2, hne, by have := (List.getElem?_eq_some_iff.mp hx).1; omega⟩, fun b hb => ?_⟩
    · rw [show ((i + 1 : Nat) : Int) = (i : Int) + 1 by omega]
      exact he2
    · have hb' : b < s.heap.objs.size := by
        rcases List.mem_cons.mp hb with z | z
        · rw [z]; exact hel
        · rw [List.mem_singleton.mp z]; exact hil
      rw [upd_ne (Nat.ne_of_lt hb')]
      exact (hf b hb).1
  done := by
    intro X hP hw hK hc i pins s σ H E I hf st hg
    subst hP hw hK
    obtain ⟨⟨old, he⟩, hit, hne, le⟩ := st
    obtain ⟨xs, hq, hx, eN⟩ := hg
    obtain ⟨its, rv, p, hz⟩ := I.tuple hq
    obtain ⟨f0, f1, f2, f3, f4, f5⟩ := hf it (by simp)
    have hl := rv.length
    have hd : X.A.in1.handled = none := I.ok.hd hc
    have D := Draws.tuple (prog := X.prog) (w := X.w) hd it a (tup_ne p hit) its.toArray
    have ei : i = its.toArray.size := by
      rw [List.size_toArray]
      omega
    rw [ei] at hit he
    exact wpAny_pyNext_enum_endD D he ⟨hit, p⟩ fun h' eb => ⟨rfl, I.turned (t' := s.toks) (fun b o hb q => eb b o hb q) f0 f1 f3 f4 f5⟩
  self := fun A i s Q E st h => let ⟨⟨_, he⟩, _⟩ := st; wpAny_pyIter_enum he h
def iEnumT (K : PySem.W.Frag) (ta : TA) : TI := fun σ H R => ta σ H fun vs H1 => ∃ a xs, vs = [.ref a] ∧ SqT K H1 a xs ∧ R (IteT K a xs.length) H1
theorem pi_enumT {X : Cx} {e : Expr} {ta : TA} {p pos tpos : Pos} {elts : List Expr} {kk : Nat} (hg : Gl X "enumerate") (hm : X.mg "enumerate" = none) (ha : PA X [e] ta) (hs : starEach [e] X.env = [(false, eval e X.env)] := by rfl) :
    PI X (.Tuple elts kk tpos) (.Call (.Name "enumerate" p) [e] [] pos) (iEnumT X.K ta) := by
  refine ⟨fun pins s σ H R I h => ?_⟩
  refine Call_ (ld_blt I hg hm boot_enumerate (PyProof.Rows.callWith_type1 (thn (ha.run pos pins s σ H _ I h) fun us s1 ⟨vs, H1, I1, r1, a, xs, ex, hq, q⟩ => ?_) hs rfl))
  subst ex
  obtain ⟨u, rfl, ru⟩ := r1.one
  cases (show u = Value.ref a from ru)
  obtain ⟨its, rv, p', hz⟩ := I1.tuple hq
  refine enum_tuple (items := its.toArray) p' fun h' he hit hk => wpAny_pyIter_enum he ?_
  have I2 : Inv X pins σ H1 { s1 with heap := h' } := I1.kept (t' := s1.toks) hk
  have la : a < s1.heap.objs.size := by
    obtain ⟨o, ho, _⟩ := p'
    exact Heap.lt_size ho
  refine ⟨s1.heap.objs.size + 1, [s1.heap.objs.size + 1, s1.heap.objs.size], _, _, H1, rfl, I2, turn_enumT a (s1.heap.objs.size + 1) s1.heap.objs.size xs.length (Nat.ne_of_gt (Nat.lt_succ_of_lt la)), ⟨⟨.none, he⟩, hit, Nat.succ_ne_self _, Nat.zero_le _⟩, fun b hb => ?_, q⟩
  have hle : s1.heap.objs.size ≤ b := by
    rcases List.mem_cons.mp hb with z | z
    · rw [z]
      exact Nat.le_succ _
    · rw [List.mem_singleton.mp z]
      exact Nat.le_refl _
  exact I1.fpOk hle (I1.hok.fresh hle)
theorem walk_enumT {K : PySem.W.Frag} {a : Addr} {xs : List V} : Walk (IteT K a xs.length) xs.length (fun H => SqT K H a xs) (YPair (fun i => some (.int (i : Nat))) fun i => xs[i]?) :=
  ⟨fun i _ hi q => ⟨xs, xs[i], q, by simp [hi], rfl⟩, fun _ q => ⟨xs, q, Nat.le_refl _, rfl⟩, fun i H x H' hi q y => by
    obtain ⟨T, z, e1, e2, e3, e4⟩ := y
    exact ⟨T, .int (i : Nat), z, e1, e2, e3, rfl, e4 xs q⟩⟩
end OwnR

set_option Elab.async false
set_option linter.all false
set_option maxRecDepth 100000
set_option maxHeartbeats 1000000
namespace Sl
open PySem PySem.Spec L2 OwnR
theorem eqV_str (a b : Str) : eqV (.str a) (.str b) = decide (a = b) := by
  show (a == b) = decide (a = b)
  by_cases h : a = b
  · rw [h]; simp
  · rw [decide_eq_false h]; simpa using h
theorem inV_str (x : Str) (l : List Str) : inV (.str x) (l.map V.str) = decide (x ∈ l) := by
  unfold inV
  induction l with
  | nil => simp
  | cons y r ih =>
    rw [List.map_cons, List.any_cons, ih, eqV_str]
    by_cases h : y = x
    · subst h; simp
    · have h2 : ¬ x = y := fun z => h z.symm
      simp [h, h2]
theorem tk1 {α : Type} {l : List α} {i : Nat} {x : α} (h : l[i]? = some x) : l.take (i + 1) = l.take i ++ [x] := by
  rw [List.take_add_one, h]
  rfl
theorem flat_strs (l : List Str) : (l.map V.str).all flatV = true := by
  induction l with
  | nil => rfl
  | cons y r ih => rw [List.map_cons, List.all_cons, ih]; rfl
section
variable {P : Program} {w : World} {K : PySem.W.Frag} {mg : Str → Option Value} {base : Heap}
def spCheckCars : Sp := fun vs H Q _ => ∃ (a : Addr) (cars : List Car), vs = [.ref a] ∧ CarsAt H a cars ∧ CarsOk cars ∧ ∀ H', Same H H' → Q .non H'
theorem scCheckCars : FnScope ["cars", "names", "index", "car"] ["cars"] (defScope sCheckCars) := ⟨rfl, rfl, rfl, by decide +kernel, rfl, by decide +kernel, by decide +kernel⟩
theorem ok_checkCars {f fC : Addr} {fd dC : FuncData} (F : Fb K mg "check_cars" sCheckCars ["cars"] f fd) (M : Mg mg) (BC : Fb K mg "is_car" sIsCar ["value"] fC dC)
    (GC : FnOk P w K mg base CX0 2 fC dC ["value"] spIsCar) : FnOk P w K mg base CX0 3 f fd ["cars"] spCheckCars := by
  obtain ⟨t1, M1⟩ := M.mostCars
  refine F.fn.ok scCheckCars (fun vs H Q E h => ?_) (fun cdv A outer s H vs Q E hr h => ?_)
  · obtain ⟨t, c, rfl, _⟩ := h
    rfl
  · obtain ⟨a, cars, rfl, ⟨ts, ha, hlen, hcar⟩, C, k⟩ := h
    have nd := scCheckCars.nd
    refine ⟨_, pss_cons (ps_if (pt_not (pt_val (pe_callB call_isi (by rfl) M.isinstance boot_isinstance (pa_cons (pv 0) (pa_cons (pe_bltn (v := .ty "tuple") (by rfl) M.tuple boot_tTuple rfl) pa_nil))))) (pss_one ps_never) pss_nil)
      (pss_cons (ps_set (i := 1) nd rfl (.inl rfl) (pe_lst pa_nil))
      (pss_one (ps_for PassesOwn.never rfl (pi_enumT (by rfl) M.enumerate (pa_cons (pv 0) pa_nil)) (pg_tup rfl (pgs_cons (pg_name (i := 2) nd rfl (.inl rfl)) (pgs_cons (pg_name (i := 3) nd rfl (.inl rfl)) pgs_nil)))
        (pss_cons (ps_if (PW.pt (pw_or (pt_cmpR op_eq (pv 2) (pe_glob (v := .int 10) (by rfl) M1 ⟨_, rfl⟩) (nomark _)) (pw_or (pt_not (pt_val (pe_call GC hr (by rfl) BC.at_ BC.fn.kp BC.bd .nil pass0 (pa_cons (pv 3) pa_nil))))
            (pw_or1 (pt_cmpR op_in_seq (pe_ix ix_tup (pv 3) pe_int (fun _ _ => rfl)) (pv 1) (by rfl)))))) (pss_one ps_never) pss_nil)
          (pss_one (ps_expr (pe_bm PySem.F.plainAttrs_list PySem.F.slot_list_append PySem.F.type_list_append mt_append (pv 1) (pa_cons (pe_ix ix_tup (pv 3) pe_int (fun _ _ => rfl)) pa_nil)))))))), ?_⟩
    refine ⟨_, rfl, _, _, _, _, true, rfl, .ty _, .base (.tup ha), kit_ty (by decide +kernel), true, rfl, iteF ?_⟩
    refine ⟨Nat.zero_le _, fun l hl => ?_⟩
    have hts : (ts.map V.ref).length = cars.length := by rw [List.length_map, hlen]
    refine ⟨_, rfl, a, ts.map V.ref, rfl, SqT.of (by rw [upd_ne (ne_of_none ha hl)]; exact ha), for_it walk_enumT
      (fun i σ H1 => ∃ v2 v3, σ = [some (.ref a), some (.ref l), v2, v3] ∧ Same H H1 ∧ H1 l = some (.lst (((cars.take i).map (·.name)).map V.str)))
      ⟨none, none, rfl, fun b o e => by rw [upd_ne (ne_of_none e hl)]; exact e, upd_same⟩ (fun i σ H1 _ ⟨_, _, _, s1, _⟩ => SqT.of (s1 _ _ ha)) ?_ ?_⟩
    · rintro i x σ H1 H2 hi ⟨v2, v3, rfl, s1, hL⟩ ⟨T, x1, x2, rfl, hT, rfl, e1, e2⟩
      cases e1
      have hic : i < cars.length := by rw [hts] at hi; exact hi
      obtain ⟨t, ht, rfl⟩ : ∃ t, ts[i]? = some t ∧ x2 = V.ref t := by
        have e2 : (ts.map V.ref)[i]? = some x2 := e2
        rw [List.getElem?_map] at e2
        obtain ⟨t, z1, z2⟩ := Option.map_eq_some_iff.mp e2
        exact ⟨t, z1, z2.symm⟩
      have hc : cars[i]? = some cars[i] := List.getElem?_eq_getElem hic
      have hct := hcar i t _ ht hc
      have sT : Same H1 (upd H1 T (.tup [.int (i : Nat), .ref t])) := fun b o e => by rw [upd_ne (ne_of_none e hT)]; exact e
      have h2 := sT _ _ (s1 _ _ hct)
      have C0 := C.all _ (List.getElem_mem hic)
      refine ⟨T, _, rfl, SqT.of upd_same, rfl, _, _, rfl, _, _, rfl, rfl, ?_⟩
      refine ⟨_, rfl, rfl, _, rfl, ?_⟩
      have ne10 : ¬ (V.int (i : Nat) = V.int 10) := fun z => by
        injection z with z
        have := C.few
        omega
      rw [decide_eq_false ne10]
      refine iteF ?_
      refine ⟨_, rfl, t, cars[i], rfl, h2, C0, fun H3 s3 => ⟨true, rfl, iteF ?_⟩⟩
      refine ⟨_, rfl, t, _, 0, .str cars[i].name, rfl, rfl, SqT.of (s3 _ _ h2), rfl, _, rfl, l, _, rfl, .inl (SqL.of (s3 _ _ (sT _ _ hL))), rfl, flat_strs _, false, ?_, iteF ?_⟩
      · rw [inV_str]
        have : ¬ cars[i].name ∈ (cars.take i).map (·.name) := fun hm => by
          obtain ⟨j, hj⟩ := List.mem_iff_getElem?.mp hm
          rw [List.getElem?_map] at hj
          obtain ⟨c', hc', en⟩ := Option.map_eq_some_iff.mp hj
          have hj2 : j < i := by
            have := (List.getElem?_eq_some_iff.mp hc').1
            rw [List.length_take] at this
            omega
          rw [List.getElem?_take_of_lt hj2] at hc'
          have a1 : (cars.map (·.name))[j]? = some cars[i].name := by rw [List.getElem?_map, hc']; exact congrArg some en
          have a2 : (cars.map (·.name))[i]? = some cars[i].name := by rw [List.getElem?_map, hc]; rfl
          have := nd_ix C.nd a1 a2
          omega
        rw [decide_eq_false this]
        rfl
      · have hl3 := s3 _ _ (sT _ _ hL)
        refine ⟨_, rfl, .inl ⟨rfl, _, SqL.of hl3⟩, _, rfl, t, _, 0, .str cars[i].name, rfl, rfl, SqT.of (s3 _ _ h2), rfl, l, _, _, rfl, rfl, hl3, ?_, ?_⟩
        · rw [List.length_map, List.length_map, List.length_take]
          have := C.few
          exact small1000 (by omega)
        · refine ⟨_, _, rfl, fun b o e => ?_, ?_⟩
          · rw [upd_ne (ne_of_none e hl)]
            exact s3 _ _ (sT _ _ (s1 _ _ e))
          · rw [upd_same, tk1 hc, List.map_append, List.map_append]
            rfl
    · rintro σ H1 ⟨v2, v3, rfl, s1, hL⟩
      exact k H1 s1
end
end Sl

set_option Elab.async false
set_option linter.all false
set_option maxRecDepth 100000
set_option maxHeartbeats 1000000
namespace Sl
open PySem PySem.Spec L2 OwnR LamX
/-- a def whose code object's address is known -/
structure FunC (K : PySem.W.Frag) (x qual : Str) (st : Stmt) (f : Addr) (fd : FuncData) (c : Addr) : Prop where
  ex : ∃ (oc : Value) (od : Option Addr) (kV doc pm : Value) (an : Option Addr) (ct : Value) (osl : Array (Option Value)),
    fd = PySem.W.fnOf x qual (defArgs st) (defBody st) (defScope st) .none kV doc pm an (.ref c) ct ∧ K.lookup f = some ⟨oc, od, .func fd, osl⟩ ∧ PySem.W.codeIn K (.ref c) qual = true
  kp : PySem.W.keepIn K (.ref f) = true
section
variable {P : Program} {w : World} {K : PySem.W.Frag} {mg : Str → Option Value} {base : Heap}
theorem FunC.ok {x qual : Str} {st : Stmt} {f c : Addr} {fd : FuncData} {N ps : List Str} {k : Nat} {sp : Sp} (F : FunC K x qual st f fd c) (S : FnScope N ps (defScope st)) (len : ∀ vs H Q E, sp vs H Q E → vs.length = ps.length)
    (hbody : ∀ (A : Around) (outer : List Env) (s : Shared) (H : Hp) (vs : List V) (Q : VK) (E : XK), Room k (A.deeper (PyProof.Rows.envOfC qual (defScope st) s.heap.objs.size f (.ref c))) → sp vs H Q E →
      ∃ t, PSs (cxOf CX0 P w K mg base N qual (defScope st) f (.ref c) A outer s H E).nox (defBody st) t ∧ t { nx := fun _ H' => Q .non H', rt := Q } (start N vs) H) : FnOk P w K mg base CX0 (k + 1) f fd ps sp := by
  obtain ⟨oc, od, kV, doc, pm, an, ct, osl, rfl, lk, hcd⟩ := F.ex
  refine fn_of lk hcd S len fun A outer s H vs Q E hr hsp => ?_
  obtain ⟨t, h, q⟩ := hbody A outer s H vs Q E hr hsp
  exact ⟨t, h.nox, q⟩
structure FbC (K : PySem.W.Frag) (mg : Str → Option Value) (x : Str) (st : Stmt) (ps : List Str) (f : Addr) (fd : FuncData) (c : Addr) : Prop where
  fn : FunC K x x st f fd c
  at_ : mg x = some (.ref f)
  bd : Binds K fd ps []
/-- what stands behind a step that may have made code objects -/
theorem ExtN.same {H H' : Hp} (e : Same H H') : ExtN H H' := fun b o h _ => e b o h
theorem ExtN.lst {H H' : Hp} (e : ExtN H H') {a : Addr} {xs : List V} (h : H a = some (.lst xs)) : H' a = some (.lst xs) := e _ _ h (fun _ z => nomatch z)
theorem ExtN.tup {H H' : Hp} (e : ExtN H H') {a : Addr} {xs : List V} (h : H a = some (.tup xs)) : H' a = some (.tup xs) := e _ _ h (fun _ z => nomatch z)
theorem ExtN.dK {H H' : Hp} (e : ExtN H H') {a : Addr} {xs : List (Key × V)} (h : H a = some (.dK xs)) : H' a = some (.dK xs) := e _ _ h (fun _ z => nomatch z)
theorem ExtN.ins {H H' : Hp} (e : ExtN H H') {a C d : Addr} {xs : List (Str × V)} (h : H a = some (.ins C d xs)) : H' a = some (.ins C d xs) := e _ _ h (fun _ z => nomatch z)
theorem ExtN.sqT {H H' : Hp} (e : ExtN H H') {a : Addr} {xs : List V} (h : SqT K H a xs) : SqT K H' a xs := by
  rcases h with (h | ⟨o, h⟩) | h
  · exact .inl (.inl (e _ _ h fun _ z => nomatch z))
  · exact .inl (.inr ⟨o, e _ _ h fun _ z => nomatch z⟩)
  · exact .inr h
theorem ExtN.sqL {H H' : Hp} (e : ExtN H H') {a : Addr} {xs : List V} (h : SqL K H a xs) : SqL K H' a xs := by
  rcases h with (h | ⟨o, h⟩) | h
  · exact .inl (.inl (e _ _ h fun _ z => nomatch z))
  · exact .inl (.inr ⟨o, e _ _ h fun _ z => nomatch z⟩)
  · exact .inr h
theorem CarsAt.ext {H H' : Hp} {a : Addr} {cars : List Car} (h : CarsAt H a cars) (e : ExtN H H') : CarsAt H' a cars := by
  obtain ⟨ts, h1, h2, h3⟩ := h
  exact ⟨ts, ExtN.tup e h1, h2, fun i t c e1 e2 => ExtN.tup e (h3 i t c e1 e2)⟩
/-! ### _in_order -/
/-- nothing that was tracked, but tables, stands at D -/
def New (H : Hp) (D : Addr) : Prop := ∀ b o, H b = some o → (∀ ps, o ≠ .tbl ps) → b ≠ D
theorem New.of {H : Hp} {D : Addr} (h : H D = none) : New H D := fun b o e _ => ne_of_none e h
theorem New.ext {H H' : Hp} {D : Addr} (e : ExtN H H') (h : New H' D) : New H D := fun b o x n => h b o (e b o x n) n
theorem zip_self (tk : Str → Int) : ∀ names : List Str, (names.map tk).zip (names.map V.str) = (names.map fun n => (tk n, n)).map fun q => (q.1, V.str q.2)
  | [] => rfl
  | n :: r => by
    simp only [List.map_cons, List.zip_cons_cons]
    rw [zip_self tk r]
def qInOrder : Str := ("_in_order" : Str) ++ (".<locals>." : Str) ++ ("<lambda>" : Str)
def spInOrder (K : PySem.W.Frag) (T : List (Addr × Str)) : Sp := fun vs H Q _ => ∃ (p d : Addr) (names : List Str) (kvs : List (Key × V)) (tk : Str → Int), vs = [.ref p, .ref d] ∧ SqL K H p (names.map V.str) ∧ H d = some (.dK kvs) ∧
  (∀ n ∈ names, valV kvs (.inr n) = some (.int (tk n))) ∧ Tabs T H ∧ ∀ H' D, ExtN H H' → Tabs T H' → New H D → H' D = some (.lst ((sortBy tk names).map V.str)) → Q (.ref D) H'
theorem scInOrder : FnScope ["names", "ticks"] ["names", "ticks"] (defScope sInOrder) := ⟨rfl, rfl, rfl, by decide +kernel, rfl, by decide +kernel, by decide +kernel⟩
theorem ok_inOrder {f c Pt : Addr} {fd : FuncData} {T : List (Addr × Str)} (F : FbC K mg "_in_order" sInOrder ["names", "ticks"] f fd c) (M : Mg mg) (TB : TabB base mg c Pt) (hm : (Pt, qInOrder) ∈ T) (hu : ∀ p ∈ T, p.1 = Pt → p.2 = qInOrder) :
    FnOk P w K mg base CX0 3 f fd ["names", "ticks"] (spInOrder K T) := by
  refine F.fn.ok scInOrder (fun vs H Q E h => ?_) (fun A outer s H vs Q E hr h => ?_)
  · obtain ⟨p, d, names, kvs, tk, rfl, _⟩ := h
    rfl
  · obtain ⟨p, d, names, kvs, tk, rfl, hp, hd, hk, hT, k⟩ := h
    refine ⟨_, pss_one (ps_ret (pe_sortLam (par := "name") hr TB rfl hm hu (by rfl) M.sorted (lamP_by (sc := defScope sInOrder) (by decide +kernel)) (pv 0) (pk_dict (j := 1) rfl (by decide +kernel) (by decide +kernel) (lamP_by (sc := defScope sInOrder) (by decide +kernel)) (Or.inr (Or.inl rfl))))), ?_⟩
    refine ⟨_, rfl, p, names.map V.str, names.map tk, rfl, .inl hp, by simp, hT, fun H2 e i x kk hx hkk => ?_, fun H2 D e T2 fD => ?_⟩
    · rw [List.getElem?_map] at hx hkk
      obtain ⟨n, hn, rfl⟩ := Option.map_eq_some_iff.mp hx
      rw [hn] at hkk
      cases hkk
      exact ⟨d, kvs, .inr n, rfl, .inl (ExtN.dK e hd), rfl, hk n (List.mem_of_getElem? hn)⟩
    · have e1 : (isort ((names.map tk).zip (names.map V.str))).map (·.2) = (sortBy tk names).map V.str := by
        rw [zip_self, isort_map, List.map_map]
        unfold sortBy
        rw [List.map_map]
        rfl
      rw [e1]
      exact k _ D (fun b o h n => by rw [upd_ne (ne_of_none (e b o h n) fD)]; exact e b o h n) (T2.ext fun b o h => by rw [upd_ne (ne_of_none h fD)]; exact h) (New.ext e (New.of fD)) upd_same
end
end Sl

/-! The mathematics of driving: rows of (name, tick, leader) behind a section. -/
namespace Sl
open OwnR
section
variable {N : Type} [DecidableEq N]
abbrev RowT (N : Type) := N × Int × Option N
/-- one more car enters a narrow section -/
def fnext (free : N → Int) (acc : List (RowT N)) (n : N) : RowT N :=
  match acc.getLast? with
  | none => (n, free n, none)
  | some (a, t, l) => if free n < t then (n, t, some (l.getD a)) else (n, free n, none)
def foll (free : N → Int) (order : List N) : List (RowT N) := order.foldl (fun acc n => acc ++ [fnext free acc n]) []
theorem fnext_name (free : N → Int) (acc : List (RowT N)) (n : N) : (fnext free acc n).1 = n := by
  unfold fnext
  split
  · rfl
  · split <;> rfl
theorem foll_snoc (free : N → Int) (order : List N) (n : N) : foll free (order ++ [n]) = foll free order ++ [fnext free (foll free order) n] := by
  unfold foll
  rw [List.foldl_append]
  rfl
theorem foll_names (free : N → Int) (order : List N) : (foll free order).map (·.1) = order := by
  have h : ∀ (l : List N) (acc : List (RowT N)), (l.foldl (fun acc n => acc ++ [fnext free acc n]) acc).map (·.1) = acc.map (·.1) ++ l := by
    intro l
    induction l with
    | nil => intro acc; simp
    | cons n r ih =>
      intro acc
      rw [List.foldl_cons, ih, List.map_append, List.append_assoc]
      simp [fnext_name]
  have := h order []
  simpa [foll] using this
theorem foll_length (free : N → Int) (order : List N) : (foll free order).length = order.length := by
  have := congrArg List.length (foll_names free order)
  simpa using this
/-- what a row list tells of a name -/
def look (acc : List (RowT N)) (n : N) : Option (Int × Option N) := (acc.find? fun r => decide (r.1 = n)).map (·.2)
theorem look_nil (n : N) : look ([] : List (RowT N)) n = none := rfl
theorem look_none {acc : List (RowT N)} {n : N} (h : n ∉ acc.map (·.1)) : look acc n = none := by
  unfold look
  rw [List.find?_eq_none.mpr]
  · rfl
  · intro r hr
    simp only [decide_eq_true_eq]
    intro e
    exact h (List.mem_map.mpr ⟨r, hr, e⟩)
theorem look_snoc (acc : List (RowT N)) (r : RowT N) (m : N) (h : r.1 ∉ acc.map (·.1)) : look (acc ++ [r]) m = if m = r.1 then some r.2 else look acc m := by
  by_cases e : m = r.1
  · subst e
    have h1 : acc.find? (fun x => decide (x.1 = r.1)) = none := by
      rw [List.find?_eq_none]
      intro x hx
      simp only [decide_eq_true_eq]
      exact fun z => h (List.mem_map.mpr ⟨x, hx, z⟩)
    unfold look
    rw [List.find?_append, h1]
    simp
  · rw [if_neg e]
    unfold look
    rw [List.find?_append]
    have h1 : ([r] : List (RowT N)).find? (fun x => decide (x.1 = m)) = none := by
      have : ¬ r.1 = m := fun z => e z.symm
      simp [this]
    rw [h1]
    simp
theorem look_get {acc : List (RowT N)} (nd : (acc.map (·.1)).Nodup) {i : Nat} {r : RowT N} (h : acc[i]? = some r) : look acc r.1 = some r.2 := by
  induction acc generalizing i with
  | nil => simp at h
  | cons a l ih =>
    rw [List.map_cons, List.nodup_cons] at nd
    cases i with
    | zero =>
      have e : a = r := by simpa using h
      subst e
      unfold look
      simp
    | succ j =>
      have hj : l[j]? = some r := by simpa using h
      have hm : r.1 ∈ l.map (·.1) := List.mem_map.mpr ⟨r, List.mem_of_getElem? hj, rfl⟩
      have hne : ¬ a.1 = r.1 := fun z => nd.1 (z ▸ hm)
      have := ih nd.2 hj
      unfold look at this ⊢
      rw [List.find?_cons, decide_eq_false hne]
      exact this
theorem look_some {acc : List (RowT N)} {n : N} (h : n ∈ acc.map (·.1)) : ∃ x, look acc n = some x := by
  obtain ⟨r, hr, e⟩ := List.mem_map.mp h
  unfold look
  cases q : acc.find? (fun r => decide (r.1 = n)) with
  | none =>
    rw [List.find?_eq_none] at q
    have := q r hr
    simp [e] at this
  | some z => exact ⟨z.2, rfl⟩
def tickOf (acc : List (RowT N)) (n : N) : Int := ((look acc n).map (·.1)).getD 0
def leadOf (acc : List (RowT N)) (n : N) : Option N := (look acc n).bind (·.2)
end
end Sl

set_option Elab.async false
set_option linter.all false
set_option maxRecDepth 100000
set_option maxHeartbeats 1000000
namespace Sl
open PySem PySem.Spec L2 OwnR LamX
theorem key_eq (a b : Str) : ((Sum.inr a : Key) = Sum.inr b) = (a = b) := by
  refine propext ⟨fun h => Sum.inr.inj h, fun h => congrArg _ h⟩
/-- a dict of ticks, a dict of leaders, as the rows tell -/
def TkD (kvs : List (Key × V)) (acc : List (RowT Str)) : Prop := ∀ n, valV kvs (Sum.inr n : Key) = (look acc n).map fun x => V.int x.1
def LdD (kvs : List (Key × V)) (acc : List (RowT Str)) : Prop := ∀ n, valV kvs (Sum.inr n : Key) = (look acc n).bind fun x => x.2.map V.str
theorem valV_putS (kvs : List (Key × V)) (k j : Str) (y : V) : valV (putK kvs (Sum.inr k : Key) y) (Sum.inr j : Key) = if j = k then some y else valV kvs (Sum.inr j : Key) := by
  rw [valV_put]
  by_cases e : j = k
  · rw [if_pos e, if_pos (congrArg _ e)]
  · rw [if_neg e, if_neg (fun z => e (Sum.inr.inj z))]
theorem gk {H : Hp} {a : Addr} {kvs : List (Key × V)} {n : Str} {v : V} (e : H a = some (.dK kvs)) (h : valV kvs (Sum.inr n : Key) = some v) : DGet H a (.str n) (some v) := by
  have q := DGet.k (k := (Sum.inr n : Key)) e
  rw [h] at q
  exact q
theorem gk0 {H : Hp} {a : Addr} {kvs : List (Key × V)} {n : Str} {o : Option V} (e : H a = some (.dK kvs)) (h : valV kvs (Sum.inr n : Key) = o) : DGet H a (.str n) o := by
  have q := DGet.k (k := (Sum.inr n : Key)) e
  rw [h] at q
  exact q
theorem look_last {acc : List (RowT Str)} (nd : (acc.map (·.1)).Nodup) {r : RowT Str} (h : acc.getLast? = some r) : look acc r.1 = some r.2 := by
  rw [List.getLast?_eq_getElem?] at h
  exact look_get nd h
theorem TkD.put {kvs : List (Key × V)} {acc : List (RowT Str)} {r : RowT Str} (h : TkD kvs acc) (hn : r.1 ∉ acc.map (·.1)) : TkD (putK kvs (Sum.inr r.1 : Key) (.int r.2.1)) (acc ++ [r]) := by
  intro m
  rw [valV_putS, look_snoc acc r m hn]
  by_cases e : m = r.1
  · rw [if_pos e, if_pos e]; rfl
  · rw [if_neg e, if_neg e]; exact h m
theorem TkD.put2 {kvs : List (Key × V)} {acc : List (RowT Str)} {r : RowT Str} {y : V} (h : TkD kvs acc) (hn : r.1 ∉ acc.map (·.1)) : TkD (putK (putK kvs (Sum.inr r.1 : Key) y) (Sum.inr r.1 : Key) (.int r.2.1)) (acc ++ [r]) := by
  intro m
  rw [valV_putS, valV_putS, look_snoc acc r m hn]
  by_cases e : m = r.1
  · rw [if_pos e, if_pos e]; rfl
  · rw [if_neg e, if_neg e, if_neg e]; exact h m
theorem LdD.put {kvs : List (Key × V)} {acc : List (RowT Str)} {r : RowT Str} {l : Str} (h : LdD kvs acc) (hn : r.1 ∉ acc.map (·.1)) (hl : r.2.2 = some l) : LdD (putK kvs (Sum.inr r.1 : Key) (.str l)) (acc ++ [r]) := by
  intro m
  rw [valV_putS, look_snoc acc r m hn]
  by_cases e : m = r.1
  · rw [if_pos e, if_pos e]; simp [hl]
  · rw [if_neg e, if_neg e]; exact h m
theorem LdD.skip {kvs : List (Key × V)} {acc : List (RowT Str)} {r : RowT Str} (h : LdD kvs acc) (hn : r.1 ∉ acc.map (·.1)) (hl : r.2.2 = none) : LdD kvs (acc ++ [r]) := by
  intro m
  rw [look_snoc acc r m hn]
  by_cases e : m = r.1
  · rw [if_pos e, h m, e, look_none hn]; simp [hl]
  · rw [if_neg e]; exact h m
section
variable {P : Program} {w : World} {K : PySem.W.Frag} {mg : Str → Option Value} {base : Heap}
def spFollow (K : PySem.W.Frag) : Sp := fun vs H Q _ => ∃ (p d : Addr) (order : List Str) (kvs : List (Key × V)) (fr : Str → Int), vs = [.ref p, .ref d] ∧ SqL K H p (order.map V.str) ∧ H d = some (.dK kvs) ∧
  (∀ n ∈ order, valV kvs (Sum.inr n : Key) = some (.int (fr n))) ∧ order.Nodup ∧ order.length ≤ 100 ∧
  ∀ H' t L G kL kG, Same H H' → H L = none → H G = none → L ≠ G → H' t = some (.tup [.ref L, .ref G]) → H' L = some (.dK kL) → H' G = some (.dK kG) → TkD kL (foll fr order) → LdD kG (foll fr order) → Q (.ref t) H'
theorem scFollow : FnScope ["order", "free", "left", "leaders", "ahead", "name"] ["order", "free"] (defScope sFollow) := ⟨rfl, rfl, rfl, by decide +kernel, rfl, by decide +kernel, by decide +kernel⟩
def aheadV (acc : List (RowT Str)) : V := match acc.getLast? with
  | none => .non
  | some r => .str r.1
theorem ok_follow {f : Addr} {fd : FuncData} (F : Fb K mg "_follow" sFollow ["order", "free"] f fd) : FnOk P w K mg base CX0 1 f fd ["order", "free"] (spFollow K) := by
  refine F.fn.ok scFollow (fun vs H Q E h => ?_) (fun cdv A outer s H vs Q E hr h => ?_)
  · obtain ⟨p, d, o, kvs, fr, rfl, _⟩ := h
    rfl
  · obtain ⟨p, d, order, kvs, fr, rfl, hp, hd, hk, hnd, hlen, k⟩ := h
    have nd := scFollow.nd
    have hu := hu_of hr
    refine ⟨_, pss_cons (ps_set (i := 2) nd rfl (.inl rfl) pe_dnewK) (pss_cons (ps_set (i := 3) nd rfl (.inl rfl) pe_dnewK) (pss_cons (ps_set (i := 4) nd rfl (.inl rfl) pe_non)
      (pss_cons (ps_for PassesOwn.never rfl (pi_list (pv 0)) (pg_name (i := 5) nd rfl (.inl rfl))
        (pss_cons (ps_dput hu (pv 2) (pv 5) (pe_dget hu (pv 1) (pv 5) (fun _ _ => rfl)) rfl)
        (pss_cons (ps_if (PW.pt (pw_and (pt_cmp (pc_notN (pv 4))) (pw_and1 (pt_cmpR op_lt (pe_dget hu (pv 1) (pv 5) (fun _ _ => rfl)) (pe_dget hu (pv 2) (pv 4) (fun _ _ => rfl)) (nomark _)))))
            (pss_cons (ps_dput hu (pv 2) (pv 5) (pe_dget hu (pv 2) (pv 4) (fun _ _ => rfl)) rfl) (pss_one (ps_dput hu (pv 3) (pv 5) (pe_dget2 hu (pv 3) (pv 4) (pv 4) ⟨rfl, rfl, rfl, rfl⟩) rfl))) pss_nil)
          (pss_one (ps_set (i := 4) nd rfl (.inl rfl) (pv 5))))))
      (pss_one (ps_ret (pe_tup (pa_cons (pv 2) (pa_cons (pv 3) pa_nil)))))))), ?_⟩
    intro L hL G hG
    have nLG : L ≠ G := ne_of_none (H := upd H L (.dK [])) upd_same hG
    have hG0 : H G = none := by rw [upd_ne nLG.symm] at hG; exact hG
    have ndL : d ≠ L := ne_of_none hd hL
    have ndG : d ≠ G := ne_of_none hd hG0
    have s0 : Same H (upd (upd H L (.dK [])) G (.dK [])) := fun b o e => by rw [upd_ne (ne_of_none e hG0), upd_ne (ne_of_none e hL)]; exact e
    refine ⟨_, rfl, p, rfl, ⟨_, s0.seq hp⟩, for_list (K := K) (a := p) (xs := order.map V.str) (fun i σ H1 => ∃ v5 kL kG, σ = [some (.ref p), some (.ref d), some (.ref L), some (.ref G), some (aheadV (foll fr (order.take i))), v5] ∧ Same H H1 ∧
        H1 L = some (.dK kL) ∧ H1 G = some (.dK kG) ∧ TkD kL (foll fr (order.take i)) ∧ LdD kG (foll fr (order.take i)) ∧ kL.length ≤ 2 * i ∧ kG.length ≤ i)
      ⟨none, [], [], rfl, s0, by rw [upd_ne nLG, upd_same], upd_same, fun n => rfl, fun n => rfl, Nat.zero_le _, Nat.zero_le _⟩ (fun i σ H1 _ ⟨_, _, _, _, s1, _⟩ => s1.seq hp) ?_ ?_⟩
    · rintro i x σ H1 hi ⟨v5, kL, kG, rfl, s1, h1, h2, tL, tG, lL, lG⟩
      obtain ⟨n, hn, rfl⟩ : ∃ n, order[i]? = some n ∧ x = V.str n := by
        rw [List.getElem?_map] at hi
        obtain ⟨n, z1, z2⟩ := Option.map_eq_some_iff.mp hi
        exact ⟨n, z1, z2.symm⟩
      have hil : i < order.length := (List.getElem?_eq_some_iff.mp hn).1
      have hfr := hk n (List.mem_of_getElem? hn)
      have hd1 := s1 _ _ hd
      have enames := foll_names fr (order.take i)
      have hnew : n ∉ (foll fr (order.take i)).map (·.1) := by
        rw [enames]
        intro hm
        obtain ⟨j, hj⟩ := List.mem_iff_getElem?.mp hm
        have hj2 : j < i := by
          have := (List.getElem?_eq_some_iff.mp hj).1
          rw [List.length_take] at this
          omega
        rw [List.getElem?_take_of_lt hj2] at hj
        have := nd_ix hnd hj hn
        omega
      have etk : foll fr (order.take (i + 1)) = foll fr (order.take i) ++ [fnext fr (foll fr (order.take i)) n] := by rw [tk1 hn, foll_snoc]
      have lk := fun m => look_snoc (foll fr (order.take i)) (fnext fr (foll fr (order.take i)) n) m (by rw [fnext_name]; exact hnew)
      rw [fnext_name] at lk
      have hndA : ((foll fr (order.take i)).map (·.1)).Nodup := by
        rw [enames]
        exact hnd.sublist (List.take_sublist _ _)
      rw [etk]
      generalize foll fr (order.take i) = acc at *
      have hn1 : (fnext fr acc n).1 ∉ acc.map (·.1) := by rw [fnext_name]; exact hnew
      have zL : kL.length < sizeLine := small1000 (by omega)
      have zG : kG.length < sizeLine := small1000 (by omega)
      have nLG2 : L ≠ G := nLG
      refine ⟨_, rfl, _, rfl, d, _, rfl, gk hd1 hfr, _, rfl, _, rfl, L, _, rfl, DPut.k (k := (Sum.inr n : Key)) h1 zL, ?_⟩
      have l1 := length_putK kL (Sum.inr n : Key) (.int (fr n))
      have hLast : ∀ (r : RowT Str), aheadV (acc ++ [r]) = .str r.1 := fun r => by
        unfold aheadV
        rw [List.getLast?_append]
        rfl
      have sL : Same H (upd H1 L (.dK (putK kL (Sum.inr n : Key) (.int (fr n))))) := fun b o e => by rw [upd_ne (ne_of_none e hL)]; exact s1 b o e
      cases hl : acc.getLast? with
      | none =>
        have eV : aheadV acc = .non := by unfold aheadV; rw [hl]
        have ef : fnext fr acc n = (n, fr n, none) := by unfold fnext; rw [hl]
        rw [eV]
        refine ⟨_, rfl, _, rfl, ?_⟩
        rw [show (!decide (V.non = V.non)) = false by simp]
        refine iteF ?_
        refine iteF ?_
        rw [ef] at hn1 ⊢
        refine ⟨_, rfl, some (.str n), _, _, ?_, sL, upd_same, by rw [upd_ne nLG.symm]; exact h2, tL.put (r := (n, fr n, none)) hn1, tG.skip hn1 rfl, by omega, by omega⟩
        rw [hLast]
        rfl
      | some r =>
        obtain ⟨a, t, l⟩ := r
        have eV : aheadV acc = .str a := by unfold aheadV; rw [hl]
        have la := look_last hndA hl
        have nea : a ≠ n := fun z => by
          rw [z, look_none hnew] at la
          cases la
        have ga : valV (putK kL (Sum.inr n : Key) (.int (fr n))) (Sum.inr a : Key) = some (.int t) := by
          rw [valV_putS, if_neg nea, tL a, la]
          rfl
        have gL : upd H1 L (.dK (putK kL (Sum.inr n : Key) (.int (fr n)))) L = some (.dK (putK kL (Sum.inr n : Key) (.int (fr n)))) := upd_same
        rw [eV]
        refine ⟨_, rfl, _, rfl, ?_⟩
        rw [show (!decide (V.str a = V.non)) = true by simp]
        refine iteT ?_
        refine ⟨_, rfl, _, rfl, d, _, rfl, gk (by rw [upd_ne ndL]; exact hd1) hfr, _, rfl, _, rfl, L, _, rfl, gk gL ga, fr n, t, rfl, rfl, _, rfl, ?_⟩
        by_cases hc : fr n < t
        · rw [decide_eq_true hc]
          refine iteT ?_
          have ef : fnext fr acc n = (n, t, some (l.getD a)) := by
            unfold fnext
            rw [hl]
            exact if_pos hc
          have gG : valV kG (Sum.inr a : Key) = l.map V.str := by rw [tG a, la]; rfl
          have l2 := length_putK (putK kL (Sum.inr n : Key) (.int (fr n))) (Sum.inr n : Key) (.int t)
          have l3 := length_putK kG (Sum.inr n : Key) (.str (l.getD a))
          have eg : ((l.map V.str).getD (.str a)) = V.str (l.getD a) := by cases l <;> rfl
          rw [ef] at hn1 ⊢
          refine ⟨_, rfl, _, rfl, L, _, rfl, gk gL ga, _, rfl, _, rfl, L, _, rfl, DPut.k (k := (Sum.inr n : Key)) gL (small1000 (by omega)), ?_⟩
          have gG2 : (upd (upd H1 L (.dK (putK kL (Sum.inr n : Key) (.int (fr n))))) L (.dK (putK (putK kL (Sum.inr n : Key) (.int (fr n))) (Sum.inr n : Key) (.int t)))) G = some (.dK kG) := by rw [upd_ne nLG.symm, upd_ne nLG.symm]; exact h2
          refine ⟨_, rfl, G, rfl, .inl ⟨_, .inl gG2⟩, _, rfl, _, rfl, _, gk0 gG2 gG, ?_⟩
          rw [eg]
          refine ⟨_, rfl, _, rfl, G, _, rfl, DPut.k (k := (Sum.inr n : Key)) gG2 zG, ?_⟩
          refine ⟨_, rfl, some (.str n), _, _, ?_, fun b o e => ?_, by rw [upd_ne nLG, upd_same], upd_same, tL.put2 (r := (n, t, some (l.getD a))) hn1, tG.put (r := (n, t, some (l.getD a))) hn1 rfl, Nat.le_trans l2 (by omega), Nat.le_trans l3 (by omega)⟩
          · rw [hLast]
            rfl
          · rw [upd_ne (ne_of_none e hG0), upd_ne (ne_of_none e hL)]
            exact sL b o e
        · rw [decide_eq_false hc]
          refine iteF ?_
          have ef : fnext fr acc n = (n, fr n, none) := by
            unfold fnext
            rw [hl]
            exact if_neg hc
          rw [ef] at hn1 ⊢
          refine ⟨_, rfl, some (.str n), _, _, ?_, sL, upd_same, by rw [upd_ne nLG.symm]; exact h2, tL.put (r := (n, fr n, none)) hn1, tG.skip hn1 rfl, by omega, by omega⟩
          rw [hLast]
          rfl
    · rintro σ H1 ⟨v5, kL, kG, rfl, s1, h1, h2, tL, tG, lL, lG⟩
      have e3 : order.take (order.map V.str).length = order := by rw [List.length_map, List.take_length]
      rw [e3] at tL tG
      refine ⟨_, rfl, _, rfl, by show 2 ≤ sizeLine; decide, fun t ht => ?_⟩
      exact k _ t L G kL kG (fun b o e => by rw [upd_ne (ne_of_none (s1 _ _ e) ht)]; exact s1 b o e) hL hG0 nLG upd_same (by rw [upd_ne (ne_of_none h1 ht)]; exact h1) (by rw [upd_ne (ne_of_none h2 ht)]; exact h2) tL tG
end
end Sl

set_option Elab.async false
set_option linter.all false
set_option maxRecDepth 100000
set_option maxHeartbeats 1000000
namespace OwnR
open PySem PySem.Spec PyProof.Rows L2
theorem fold_flat : ∀ (l : List (Array Nat)) (acc : Array Nat), (l.foldl (· ++ ·) acc).toList = acc.toList ++ (l.map (·.toList)).flatten
  | [], acc => by simp
  | a :: r, acc => by
    rw [List.foldl_cons, fold_flat r, List.map_cons, List.flatten_cons]
    simp
/-- z * n, a text repeated, n from 1 -/
def rRepS : R2 := fun x y H Q => ∃ (z : Str) (n : Nat), x = .str z ∧ y = .int (n : Int) ∧ 1 ≤ n ∧ n ≤ 1000000 ∧ z.length * n ≤ 1000000 ∧ ∀ u : Str, u.cps.toList = (List.replicate n z.cps.toList).flatten → Q (.str u) H
theorem line_big : 1000000 ≤ sizeLine := by decide
theorem op_repS {X : Cx} : OpR X (binaryOp .Mult) rRepS := by
  intro pins s σ H x y v u Q I rx ry h
  obtain ⟨z, n, rfl, rfl, h1, hn, hz, q⟩ := h
  obtain ⟨t, rfl⟩ := (show ∃ t, v = Value.str z t from rx)
  obtain ⟨t', rfl⟩ := (show ∃ t, u = Value.int (n : Int) t from ry)
  have hn1 : ¬ (n : Int) < 1 := by omega
  have hzl : (z.length : Int) * (n : Int) ≤ 1000000 := by
    rw [← Int.natCast_mul]
    generalize z.length * n = mm at hz
    omega
  refine P.mul_str (by
      rw [decide_eq_false (by omega : ¬ (n : Int) < -(2 ^ 63)), decide_eq_false (by omega : ¬ (n : Int) ≥ 2 ^ 63)]
      rfl) (fun _ hne => ?_) (fun _ hne => ?_) ?_
  · have e1 : (z.length : Int) ≤ (2 ^ 63 - 1 : Int) / (n : Int) := by
      refine Int.le_ediv_of_mul_le (by omega) ?_
      exact Int.le_trans hzl (by decide)
    exact Int.not_lt.mpr e1
  · unfold Builtin.Str.tooLong
    have e2 : z.length * (n : Int).toNat ≤ sizeLine := by
      have : (n : Int).toNat = n := by omega
      rw [this]
      exact Nat.le_trans hz line_big
    simp only [decide_eq_false_iff_not]
    omega
  · rw [if_neg hn1]
    split
    · rename_i hb
      have hb : (n : Int) = 1 ∨ z.length = 0 := by simpa using hb
      refine ⟨.str z, H, I, ⟨t, rfl⟩, q z ?_⟩
      rcases hb with hb | hb
      · have : n = 1 := by omega
        subst this
        simp
      · have hl : z.cps.toList = [] := by
          have : z.cps.toList.length = 0 := by simpa [Str.length] using hb
          exact List.length_eq_zero_iff.mp this
        rw [hl]
        simp
    · have en : (n : Int).toNat = n := by omega
      rw [en]
      have ec : (⟨(List.replicate n z.cps).foldl (· ++ ·) #[]⟩ : Str).cps.toList = (List.replicate n z.cps.toList).flatten := by
        show ((List.replicate n z.cps).foldl (· ++ ·) #[]).toList = _
        rw [fold_flat, List.map_replicate]
        simp
      refine ⟨?_, .str _, H, I.tok _, ⟨_, rfl⟩, q _ ec⟩
      have : (⟨(List.replicate n z.cps).foldl (· ++ ·) #[]⟩ : Str).length = z.length * n := by
        show ((List.replicate n z.cps).foldl (· ++ ·) #[]).size = z.cps.size * n
        rw [← Array.length_toList, fold_flat, List.map_replicate]
        simp [Nat.mul_comm]
      rw [this]
      exact Nat.le_trans hz line_big
/-! ### d.get(k), d a written dict that has k -/
def tKGet1 (K : PySem.W.Frag) (w : World) (td ty : TE) : TE := fun σ H Q => td σ H fun x H1 => ∃ p, x = .ref p ∧ (p == sysModules) = false ∧ (∃ z0 v0, KDct K w p z0 v0) ∧ ty σ H1 fun y H2 => ∃ (z : Str) (v : V), y = .str z ∧ KDct K w p z v ∧ Q v H2
theorem pe_kget1 {X : Cx} {o e : Expr} {apos cpos : Pos} {td ty : TE} (ho : PE X o td) (he : PE X e ty) (m : M1 X o "get" apos e cpos) : PE X (.Call (.Attribute o "get" apos) [e] [] cpos) (tKGet1 X.K X.w td ty) := by
  refine ⟨fun pins s σ H Q I h => ?_⟩
  refine wpAny_Call_method m.base m.few m.line PySem.F.plainAttrs_dict PySem.F.slot_dict_get PySem.F.type_dict_get (thn (ho.run pins s σ H _ I h) fun u s1 ⟨x, H1, I1, rx, p, ex, np, ⟨z0, v0, es0, n0, u0, hl0, hk0, e0, _⟩, q1⟩ => ?_)
  subst ex
  cases (show u = Value.ref p from rx)
  have hm0 := PySem.W.mapOf_K (prog := X.prog) (w := X.w) I1.kIn hl0 hk0
  refine ⟨hm0.typeIs, fun b q => ?_, ?_⟩
  · cases q
    exact ⟨_, I1.kIn _ _ hl0, rfl⟩
  rw [m.trees]
  refine Calls.callWith_builtin rfl (Calls.evalArgs_plain (Calls.spliced_cons (thn (he.run pins s1 σ H1 _ I1 q1) fun iv s2 ⟨y, H2, I2, ry, z, v, ey, kd, q2⟩ => Calls.spliced_nil ?_)))
  subst ey
  obtain ⟨es, n, u1, hl, hk, e1, ru⟩ := kd
  obtain ⟨t, rfl⟩ := (show ∃ t, iv = Value.str z t from ry)
  have hm := PySem.W.mapOf_K (prog := X.prog) (w := X.w) I2.kIn hl hk
  have hf := PySem.W.find_K hl e1
  refine call_meetsIn PySem.F.slot_dict_get hm.typeIs PySem.F.entry_dict_get (PySem.F.args_dict_get_2 _ _) (meets_dict_get (strKind X.prog X.w) p (strKind_is X.prog X.w z t) np) ⟨_, hm, ?_⟩
  rw [hf]
  exact ⟨v, H2, I2.tok _, ru, q2⟩
/-! ### a dict comprehension over any walk -/
theorem dc_it {J : It} {n : Nat} {G : Hp → Prop} {Y : Nat → Hp → V → Hp → Prop} (wk : Walk J n G Y) {g : TG} {tt : TT} {tk tv : TE} {vs : List Nat} {σ : L2.St} {H1 : Hp} {D : Addr} {Qd : Hp → Prop} (Pv : Nat → Hp → Prop) (h0 : Pv 0 (upd H1 D (.dK []))) (hG : ∀ i H, i ≤ n → Pv i H → G H)
    (hs : ∀ i x H H', i < n → Pv i H → Y i H x H' → g x (wipe σ vs) H' fun σ2 H2 => wipe σ2 vs = wipe σ vs ∧ tt σ2 H2 fun b H3 =>
      if b = true then tk σ2 H3 fun y H4 => tv σ2 H4 fun z H5 => ∃ kvs k, y = kV k ∧ H5 D = some (.dK kvs) ∧ kvs.length < sizeLine ∧ Pv (i + 1) (upd H5 D (.dK (putK kvs k z))) else Pv (i + 1) H3) (hd : ∀ H, Pv n H → Qd H) :
    ∃ W : Nat → Nat → Hp → Prop, (∃ m, W 0 m (upd H1 D (.dK []))) ∧ ∀ i m H, W i m H →
      (J.stop i H ∧ Qd H) ∨ (J.go i H ∧ ∃ Nx : Hp → Prop, (∀ H', Nx H' → ∃ m', m' < m ∧ W (i + 1) m' H') ∧ ∀ x H', J.yld i H x H' → g x (wipe σ vs) H' fun σ2 H2 => wipe σ2 vs = wipe σ vs ∧ tt σ2 H2 fun b H3 =>
        if b = true then tk σ2 H3 fun y H4 => tv σ2 H4 fun z H5 => ∃ kvs k, y = kV k ∧ H5 D = some (.dK kvs) ∧ kvs.length < sizeLine ∧ Nx (upd H5 D (.dK (putK kvs k z))) else Nx H3) := by
  refine ⟨fun i m H => m + i = n ∧ Pv i H, ⟨n, by omega, h0⟩, ?_⟩
  rintro i m H ⟨em, p⟩
  have hi : i ≤ n := by omega
  have g0 := hG i H hi p
  rcases Nat.lt_or_ge i n with lt | ge
  · exact .inr ⟨wk.goes i H lt g0, Pv (i + 1), fun H' p' => ⟨n - (i + 1), by omega, by omega, p'⟩, fun x H' y => hs i x H H' lt p (wk.yields i H x H' lt g0 y)⟩
  · have ei : i = n := by omega
    subst ei
    exact .inl ⟨wk.stops H g0, hd H p⟩
end OwnR

set_option Elab.async false
set_option linter.all false
set_option maxRecDepth 100000
set_option maxHeartbeats 1000000
namespace Sl
open PySem PySem.Spec L2 OwnR LamX
/-- a section: whether it is wide, its length -/
abbrev Sec := Bool × Nat
def kindS (b : Bool) : Str := if b then "wide" else "narrow"
def letterC (b : Bool) : Nat := if b then 119 else 110
def secV (s : Sec) : List V := [.str (kindS s.1), .int (s.2 : Nat)]
def SecsAt (H : Hp) (a : Addr) (secs : List Sec) : Prop := ∃ ts : List Addr, H a = some (.tup (ts.map V.ref)) ∧ ts.length = secs.length ∧ ∀ (i : Nat) (t : Addr) (s : Sec), ts[i]? = some t → secs[i]? = some s → H t = some (.tup (secV s))
theorem SecsAt.ext {H H' : Hp} {a : Addr} {secs : List Sec} (h : SecsAt H a secs) (e : ExtN H H') : SecsAt H' a secs := by
  obtain ⟨ts, h1, h2, h3⟩ := h
  exact ⟨ts, ExtN.tup e h1, h2, fun i t c e1 e2 => ExtN.tup e (h3 i t c e1 e2)⟩
structure SecsOk (secs : List Sec) : Prop where
  ne : secs ≠ []
  few : secs.length ≤ 12
  len : ∀ s ∈ secs, 1 ≤ s.2 ∧ s.2 ≤ 99
section
variable {P : Program} {w : World} {K : PySem.W.Frag} {mg : Str → Option Value} {base : Heap}
def spIsSection : Sp := fun vs H Q _ => ∃ (t : Addr) (s : Sec), vs = [.ref t] ∧ H t = some (.tup (secV s)) ∧ 1 ≤ s.2 ∧ s.2 ≤ 99 ∧ ∀ H', Same H H' → Q (.bl true) H'
theorem scIsSection : FnScope ["value", "kind", "length"] ["value"] (defScope sIsSection) := ⟨rfl, rfl, rfl, by decide +kernel, rfl, by decide +kernel, by decide +kernel⟩
theorem ok_isSection {f fB : Addr} {fd dB : FuncData} (F : Fb K mg "_is_section" sIsSection ["value"] f fd) (M : Mg mg) (BB : Fb K mg "is_number" sIsNumber ["value", "least", "most"] fB dB)
    (GB : FnOk P w K mg base CX0 1 fB dB ["value", "least", "most"] spIsNumber) : FnOk P w K mg base CX0 2 f fd ["value"] spIsSection := by
  obtain ⟨t1, M1⟩ := M.longestSection
  refine F.fn.ok scIsSection (fun vs H Q E h => ?_) (fun cdv A outer s H vs Q E hr h => ?_)
  · obtain ⟨t, c, rfl, _⟩ := h
    rfl
  · obtain ⟨t, c, rfl, ht, c1, c2, k⟩ := h
    have nd := scIsSection.nd
    refine ⟨_, pss_cons (ps_if (PW.pt (pw_or (pt_not (pt_val (pe_callB call_isi (by rfl) M.isinstance boot_isinstance (pa_cons (pv 0) (pa_cons (pe_bltn (v := .ty "tuple") (by rfl) M.tuple boot_tTuple rfl) pa_nil)))))
        (pw_or1 (pt_cmpR op_ne (pe_callB call_len_seq (by rfl) M.len boot_len (pa_cons (pv 0) pa_nil)) pe_int (nomark _))))) (pss_one (ps_ret pe_bl)) pss_nil)
      (pss_cons (ps_asg (pv 0) (pg_tup (by rfl) (pgs_cons (pg_name (i := 1) nd rfl (.inl rfl)) (pgs_cons (pg_name (i := 2) nd rfl (.inl rfl)) pgs_nil))))
      (pss_one (ps_ret (pe_and (pe_cmpR op_in_seq (pv 1) (pe_tup (pa_cons pe_str (pa_cons pe_str pa_nil))) (by rfl))
          (pe_one (pe_call GB hr (by rfl) BB.at_ BB.fn.kp BB.bd .nil pass0 (pa_cons (pv 2) (pa_cons pe_int (pa_cons (pe_glob (v := .int 99) (by rfl) M1 ⟨_, rfl⟩) pa_nil))))))))), ?_⟩
    refine ⟨_, rfl, _, _, _, _, true, rfl, .ty _, .base (.tup ht), kit_ty (by decide +kernel), true, rfl, iteF ?_⟩
    refine ⟨_, rfl, t, _, rfl, .inr (SqT.of ht), rfl, false, rfl, iteF ?_⟩
    refine ⟨_, rfl, t, secV c, rfl, SqT.of ht, rfl, _, _, rfl, _, _, rfl, rfl, ?_⟩
    refine ⟨_, rfl, by show 2 ≤ sizeLine; decide, fun p hp => ?_⟩
    refine ⟨p, _, rfl, .inr (SqT.of upd_same), rfl, rfl, true, ?_, iteT ?_⟩
    · show V.bl (inV (.str (kindS c.1)) _) = V.bl true
      cases c.1 <;> rfl
    refine ⟨_, rfl, (c.2 : Nat), 1, 99, rfl, ?_⟩
    rw [decide_eq_true (by omega : (1 : Int) ≤ (c.2 : Nat)), decide_eq_true (by omega : ((c.2 : Nat) : Int) ≤ 99)]
    exact k _ fun b o e => by rw [upd_ne (ne_of_none e hp)]; exact e
end
end Sl

set_option Elab.async false
set_option linter.all false
set_option maxRecDepth 100000
set_option maxHeartbeats 1000000
namespace Sl
open PySem PySem.Spec L2 OwnR LamX
def unitsL (secs : List Sec) : List Nat := secs.flatMap fun s => List.replicate s.2 (letterC s.1)
theorem unitsL_len : ∀ secs : List Sec, (unitsL secs).length = (secs.map (·.2)).sum
  | [] => rfl
  | s :: r => by
    have := unitsL_len r
    simp [unitsL] at this ⊢
theorem unitsL_snoc (secs : List Sec) (s : Sec) : unitsL (secs ++ [s]) = unitsL secs ++ List.replicate s.2 (letterC s.1) := by simp [unitsL]
theorem sum_le {secs : List Sec} (h : ∀ s ∈ secs, s.2 ≤ 99) : (secs.map (·.2)).sum ≤ 99 * secs.length := by
  induction secs with
  | nil => simp
  | cons s r ih =>
    have h1 := h s List.mem_cons_self
    have h2 := ih fun z hz => h z (List.mem_cons_of_mem _ hz)
    rw [List.map_cons, List.sum_cons, List.length_cons]
    omega
theorem ksu : ¬ (("_sections" : Str) = "_units") := by decide +kernel
/-- a Road's attributes -/
def rf (t : Addr) (u : Str) : List (Str × V) := putF "_units" (.str u) (putF "_sections" (.ref t) [])
theorem rf_eq (t : Addr) (u : Str) : rf t u = ([("_sections", V.ref t), ("_units", V.str u)] : List (Str × V)) := by
  show (if ("_sections" : Str) = "_units" then [(("_sections" : Str), V.str u)] else (("_sections" : Str), V.ref t) :: putF "_units" (V.str u) []) = ([("_sections", V.ref t), ("_units", V.str u)] : List (Str × V))
  rw [if_neg ksu]
  rfl
theorem rf_sections (t : Addr) (u : Str) : (rf t u).lookup ("_sections" : Str) = some (.ref t) := by
  unfold rf
  rw [lookup_putF, if_neg ksu, lookup_putF, if_pos rfl]
theorem rf_units (t : Addr) (u : Str) : (rf t u).lookup ("_units" : Str) = some (.str u) := by
  unfold rf
  rw [lookup_putF, if_pos rfl]
def RoadAt (C : Addr) (H : Hp) (p : Addr) (secs : List Sec) : Prop := ∃ dx t u, H p = some (.ins C dx (rf t u)) ∧ SecsAt H t secs ∧ u.cps.toList = unitsL secs
theorem RoadAt.ext {C : Addr} {H H' : Hp} {a : Addr} {secs : List Sec} (h : RoadAt C H a secs) (e : ExtN H H') : RoadAt C H' a secs := by
  obtain ⟨dx, t, u, h1, h2, h3⟩ := h
  exact ⟨dx, t, u, ExtN.ins e h1, h2.ext e, h3⟩
/-- what the program asks of the class Road and of the tables of letters -/
structure RoadT (K : PySem.W.Frag) (w : World) (mg : Str → Option Value) (C lp kp : Addr) : Prop where
  cl : Cls K C
  nS : NoAttr K C "_sections"
  nU : NoAttr K C "_units"
  mgC : mg "Road" = some (.ref C)
  mgL : mg "LETTERS" = some (.ref lp)
  mgK : mg "KINDS" = some (.ref kp)
  lN : KDct K w lp "narrow" (.str "n")
  lW : KDct K w lp "wide" (.str "w")
  kN : KDct K w kp "n" (.str "narrow")
  kW : KDct K w kp "w" (.str "wide")
  kM : (kp == sysModules) = false
def letterS (b : Bool) : Str := if b then "w" else "n"
theorem letter_toList (b : Bool) : (letterS b).cps.toList = [letterC b] := by cases b <;> decide +kernel
theorem joinL_nil : ∀ l : List (List Nat), TL.joinL [] l = l.flatten
  | [] => rfl
  | [p] => by simp [TL.joinL]
  | p :: q :: r => by
    have := joinL_nil (q :: r)
    simp [TL.joinL] at this ⊢
    exact this
theorem join_empty (ys : List Str) : (Txt.join ("" : Str) ys).cps.toList = (ys.map fun y => y.cps.toList).flatten := by
  have h := TL.tl_join ("" : Str) ys
  rw [TL.join_eq]
  have e : TL.tl ("" : Str) = [] := by decide +kernel
  rw [e, joinL_nil] at h
  exact h
section
variable {P : Program} {w : World} {K : PySem.W.Frag} {mg : Str → Option Value} {base : Heap}
theorem str_add_toList (i j : Str) : (i ++ j).cps.toList = i.cps.toList ++ j.cps.toList := by
  show (i.cps ++ j.cps).toList = _
  simp
theorem str_len_toList (i : Str) : i.length = i.cps.toList.length := by simp [Str.length]
theorem ip_addS {X : Cx} : PIp X .Add (fun x y H Q => ∃ i j, x = .str i ∧ y = .str j ∧ i.length + j.length ≤ sizeLine ∧ Q (.str (i ++ j)) H) := fun pins s σ H x y v u Q I rx ry h => iop_add_str pins s σ H x y v u Q I rx ry h
def spUnitsOf : Sp := fun vs H Q _ => ∃ (t : Addr) (secs : List Sec), vs = [.ref t] ∧ SecsAt H t secs ∧ SecsOk secs ∧ ∀ H' u, Same H H' → u.cps.toList = unitsL secs → Q (.str u) H'
def nUnitsOf : List Str := ["sections", "units", "kind", "length"]
theorem scUnitsOf : FnScope nUnitsOf ["sections"] (defScope sUnitsOf) := ⟨rfl, rfl, rfl, by decide +kernel, rfl, by decide +kernel, by decide +kernel⟩
theorem ok_unitsOf {f C lp kp : Addr} {fd : FuncData} (F : Fb K mg "_units_of" sUnitsOf ["sections"] f fd) (R : RoadT K w mg C lp kp) : FnOk P w K mg base CX0 1 f fd ["sections"] spUnitsOf := by
  refine F.fn.ok scUnitsOf (fun vs H Q E h => ?_) (fun cdv A outer s H vs Q E hr h => ?_)
  · obtain ⟨t, secs, rfl, _⟩ := h
    rfl
  · obtain ⟨t, secs, rfl, ⟨ts, ht, hlen, hsec⟩, S, k⟩ := h
    have nd := scUnitsOf.nd
    refine ⟨_, pss_cons (ps_set (i := 1) nd rfl (.inl rfl) pe_str)
      (pss_cons (ps_for PassesOwn.never rfl (pi_tup (pv 0)) (pg_tup rfl (pgs_cons (pg_name (i := 2) nd rfl (.inl rfl)) (pgs_cons (pg_name (i := 3) nd rfl (.inl rfl)) pgs_nil)))
        (pss_one (ps_aug (i := 1) nd rfl (.inl rfl) (pe_op op_repS (pe_ix (r := rIxD K w) ix_kdict (pe_glob (v := .ref lp) (by rfl) R.mgL rfl) (pv 2) (fun _ _ => rfl)) (pv 3)) ip_addS)))
      (pss_one (ps_ret (pv 1)))), ?_⟩
    have hts : (ts.map V.ref).length = secs.length := by rw [List.length_map, hlen]
    refine ⟨_, rfl, t, rfl, ⟨_, SqT.of ht⟩, for_it walk_tup (fun i σ H1 => ∃ u v2 v3, σ = [some (.ref t), some (.str u), v2, v3] ∧ Same H H1 ∧ u.cps.toList = unitsL (secs.take i))
      ⟨("" : Str), none, none, rfl, Same.refl H, by rw [List.take_zero]; decide +kernel⟩ (fun i σ H1 _ ⟨_, _, _, _, s1, _⟩ => SqT.of (s1 _ _ ht)) ?_ ?_⟩
    · rintro i y σ H1 H2 hi ⟨u, v2, v3, rfl, s1, eu⟩ ⟨e, hy⟩
      subst e
      have hic : i < secs.length := by rw [hts] at hi; exact hi
      obtain ⟨tt, htt, rfl⟩ : ∃ t, ts[i]? = some t ∧ y = V.ref t := by
        rw [List.getElem?_map] at hy
        obtain ⟨t, z1, z2⟩ := Option.map_eq_some_iff.mp hy
        exact ⟨t, z1, z2.symm⟩
      have hc : secs[i]? = some secs[i] := List.getElem?_eq_getElem hic
      have hct := s1 _ _ (hsec i tt _ htt hc)
      have c0 := S.len _ (List.getElem_mem hic)
      have hlk : KDct K w lp (kindS secs[i].1) (.str (letterS secs[i].1)) := by
        cases secs[i].1
        · exact R.lN
        · exact R.lW
      have hl1 : (letterS secs[i].1).length = 1 := by cases secs[i].1 <;> decide +kernel
      refine ⟨tt, _, rfl, SqT.of hct, rfl, _, _, rfl, _, _, rfl, rfl, ?_⟩
      refine ⟨_, rfl, _, rfl, lp, _, _, rfl, rfl, hlk, _, rfl, letterS secs[i].1, secs[i].2, rfl, rfl, c0.1, by omega, by rw [hl1]; omega, fun u2 hu2 => ?_⟩
      rw [letter_toList] at hu2
      have e2 : u2.cps.toList = List.replicate secs[i].2 (letterC secs[i].1) := by rw [hu2]; simp
      have hsz : u.length + u2.length ≤ sizeLine := by
        rw [str_len_toList, str_len_toList, eu, e2, List.length_replicate, unitsL_len]
        have h1 := sum_le (secs := secs.take i) fun s hs => (S.len s (List.mem_of_mem_take hs)).2
        have h2 : (secs.take i).length ≤ secs.length := by rw [List.length_take]; omega
        have h3 := S.few
        have h4 := c0.2
        exact Nat.le_trans (by omega : _ ≤ 2000) (by decide)
      refine ⟨u, u2, rfl, rfl, hsz, ?_⟩
      refine ⟨u ++ u2, _, _, rfl, s1, ?_⟩
      rw [str_add_toList, eu, e2, tk1 hc, unitsL_snoc]
    · rintro σ H1 ⟨u, v2, v3, rfl, s1, eu⟩
      refine ⟨_, rfl, ?_⟩
      have e9 : secs.take (ts.map V.ref).length = secs := by rw [hts, List.take_length]
      rw [e9] at eu
      exact k H1 u s1 eu
def spRInit0 (C : Addr) : Sp := fun vs H Q _ => ∃ (x dx t : Addr) (secs : List Sec), vs = [.ref x, .ref t] ∧ H x = some (.ins C dx []) ∧ SecsAt H t secs ∧ SecsOk secs ∧
  ∀ H' u, (∀ b o, H b = some o → b ≠ x → H' b = some o) → H' x = some (.ins C dx (rf t u)) → u.cps.toList = unitsL secs → Q .non H'
def nRInit : List Str := ["self", "sections", "index", "section"]
theorem scRInit : FnScope nRInit ["self", "sections"] (defScope sRInit) := ⟨rfl, rfl, rfl, by decide +kernel, rfl, by decide +kernel, by decide +kernel⟩
theorem ok_rInit {f fB fU C lp kp : Addr} {fd dB dU : FuncData} (F : Fun K "__init__" "Road.__init__" sRInit f fd) (M : Mg mg) (R : RoadT K w mg C lp kp) (BB : Fb K mg "_is_section" sIsSection ["value"] fB dB)
    (GB : FnOk P w K mg base CX0 2 fB dB ["value"] spIsSection) (BU : Fb K mg "_units_of" sUnitsOf ["sections"] fU dU) (GU : FnOk P w K mg base CX0 1 fU dU ["sections"] spUnitsOf) :
    FnR P w K mg base CX0 3 f (fun vs H Q E => ∃ ws rest, vs = ws ++ rest ∧ ws.length = (["self"] : List Str).length ∧ rest.length ≤ sizeLine ∧ ∀ p, H p = Option.none → spRInit0 C (ws ++ [V.ref p]) (upd H p (.tup rest)) Q E) := by
  obtain ⟨t1, M1⟩ := M.mostSections
  obtain ⟨oc, od, kV, doc, pm, an, cdv, ct, osl, rfl, lk, hcd⟩ := F.ex
  refine StX.fn_star lk hcd scRInit StX.cxUp_none (StX.bind_star1 (p1 := "self") (pv := "sections") (B := fun xs => bindArgs (PySem.W.fnOf "__init__" "Road.__init__" (defArgs sRInit) (defBody sRInit) (defScope sRInit) .none kV doc pm an cdv ct) ⟨xs, []⟩) (fun _ => rfl) (fun _ _ _ => rfl)) fun A outer s H vs Q E hr h => ?_
  obtain ⟨x, dx, t, secs, rfl, hx, ⟨ts, ht, hlen, hsec⟩, S, k⟩ := h
  have nd := scRInit.nd
  have hr1 : Room 1 (A.deeper (PyProof.Rows.envOfC "Road.__init__" (defScope sRInit) s.heap.objs.size f cdv)) := hr.mono (by decide)
  refine ⟨_, PSs.nox (pss_cons (ps_if (pt_not (pt_truth (pv 1) (by intro _; rfl))) (pss_one ps_never) pss_nil)
    (pss_cons (ps_for PassesOwn.never rfl (pi_enumT (by rfl) M.enumerate (pa_cons (pv 1) pa_nil)) (pg_tup rfl (pgs_cons (pg_name (i := 2) nd rfl (.inl rfl)) (pgs_cons (pg_name (i := 3) nd rfl (.inl rfl)) pgs_nil)))
      (pss_one (ps_if (PW.pt (pw_or (pt_cmpR op_eq (pv 2) (pe_glob (v := .int 12) (by rfl) M1 ⟨_, rfl⟩) (nomark _)) (pw_or1 (pt_not (pt_val (pe_call GB hr (by rfl) BB.at_ BB.fn.kp BB.bd .nil pass0 (pa_cons (pv 3) pa_nil))))))) (pss_one ps_never) pss_nil)))
    (pss_cons (ps_fld (pv 0) (pv 1) rfl)
    (pss_one (ps_fld (pv 0) (pe_call GU hr1 (by rfl) BU.at_ BU.fn.kp BU.bd .nil pass0 (pa_cons (pv 1) pa_nil)) rfl))))), ?_⟩
  have hts : (ts.map V.ref).length = secs.length := by rw [List.length_map, hlen]
  have hne : (ts.map V.ref).isEmpty = false := by
    cases ts with
    | nil =>
      exfalso
      exact S.ne (List.length_eq_zero_iff.mp hlen.symm)
    | cons _ _ => rfl
  refine ⟨_, rfl, true, .inr (.inl ⟨_, SqT.of ht, by rw [hne]; rfl⟩), iteF ?_⟩
  refine ⟨_, rfl, t, ts.map V.ref, rfl, SqT.of ht, for_it walk_enumT
    (fun i σ H1 => ∃ v2 v3, σ = [some (.ref x), some (.ref t), v2, v3] ∧ Same H H1)
    ⟨none, none, rfl, Same.refl H⟩ (fun i σ H1 _ ⟨_, _, _, s1⟩ => SqT.of (s1 _ _ ht)) ?_ ?_⟩
  · rintro i y σ H1 H2 hi ⟨v2, v3, rfl, s1⟩ ⟨T, x1, x2, rfl, hT, rfl, e1, e2⟩
    cases e1
    have hic : i < secs.length := by rw [hts] at hi; exact hi
    have e2 : (ts.map V.ref)[i]? = some x2 := e2
    obtain ⟨tt, htt, rfl⟩ : ∃ t, ts[i]? = some t ∧ x2 = V.ref t := by
      rw [List.getElem?_map] at e2
      obtain ⟨t, z1, z2⟩ := Option.map_eq_some_iff.mp e2
      exact ⟨t, z1, z2.symm⟩
    have hc : secs[i]? = some secs[i] := List.getElem?_eq_getElem hic
    have hct := hsec i tt _ htt hc
    have sT : Same H1 (upd H1 T (.tup [.int (i : Nat), .ref tt])) := fun b o e => by rw [upd_ne (ne_of_none e hT)]; exact e
    have c0 := S.len _ (List.getElem_mem hic)
    refine ⟨T, _, rfl, SqT.of upd_same, rfl, _, _, rfl, _, _, rfl, rfl, ?_⟩
    refine ⟨_, rfl, rfl, _, rfl, ?_⟩
    have ne12 : ¬ (V.int (i : Nat) = V.int 12) := fun z => by
      injection z with z
      have := S.few
      omega
    rw [decide_eq_false ne12]
    refine iteF ?_
    refine ⟨_, rfl, tt, secs[i], rfl, sT _ _ (s1 _ _ hct), c0.1, c0.2, fun H3 s3 => ⟨true, rfl, iteF ?_⟩⟩
    exact ⟨_, _, rfl, s1.trans (sT.trans s3)⟩
  · rintro σ H1 ⟨v2, v3, rfl, s1⟩
    have hx1 := s1 _ _ hx
    have ht1 := s1 _ _ ht
    have nxt : t ≠ x := ne_of ht1 hx1 (by intro z; cases z)
    refine ⟨_, rfl, _, rfl, x, C, dx, _, rfl, hx1, R.cl, R.nS, (by show 0 < 1000; decide), ?_⟩
    have sx : ∀ b o, H b = some o → b ≠ x → upd H1 x (.ins C dx (putF "_sections" (.ref t) [])) b = some o := fun b o e n => by rw [upd_ne n]; exact s1 b o e
    have hs2 : SecsAt (upd H1 x (.ins C dx (putF "_sections" (.ref t) []))) t secs := by
      refine ⟨ts, by rw [upd_ne nxt]; exact ht1, hlen, fun i a s e1 e2 => ?_⟩
      have h1 := s1 _ _ (hsec i a s e1 e2)
      rw [upd_ne (ne_of h1 hx1 (by intro z; cases z))]
      exact h1
    refine ⟨_, rfl, t, secs, rfl, hs2, S, fun H2 u k2 eU => ?_⟩
    have hx2 := k2 x _ upd_same
    refine ⟨_, rfl, x, C, dx, _, rfl, hx2, R.cl, R.nU, (by show 1 < 1000; decide), ?_⟩
    exact k _ _ (fun b o e n => by rw [upd_ne n]; exact k2 b o (sx b o e n)) upd_same eU
end
end Sl

/-! Runs of units: the longest runs of a list of Booleans. -/
namespace Sl
def rstep (acc : List (Bool × Nat)) (b : Bool) : List (Bool × Nat) := match acc.getLast? with
  | none => [(b, 1)]
  | some (k, n) => if k = b then acc.dropLast ++ [(k, n + 1)] else acc ++ [(b, 1)]
def runsOf (l : List Bool) : List (Bool × Nat) := l.foldl rstep []
theorem runsOf_snoc (l : List Bool) (b : Bool) : runsOf (l ++ [b]) = rstep (runsOf l) b := by
  unfold runsOf
  rw [List.foldl_append]
  rfl
theorem rstep_len (acc : List (Bool × Nat)) (b : Bool) : (rstep acc b).length ≤ acc.length + 1 := by
  unfold rstep
  split
  · simp
  · split
    · simp [List.length_dropLast]
    · simp
theorem runs_fold_len : ∀ (l : List Bool) (acc : List (Bool × Nat)), (l.foldl rstep acc).length ≤ acc.length + l.length
  | [], _ => by simp
  | b :: r, acc => by
    have h1 := runs_fold_len r (rstep acc b)
    have h2 := rstep_len acc b
    rw [List.foldl_cons, List.length_cons]
    omega
theorem runsOf_len (l : List Bool) : (runsOf l).length ≤ l.length := by
  have := runs_fold_len l []
  simpa [runsOf] using this
end Sl

set_option Elab.async false
set_option linter.all false
set_option maxRecDepth 100000
set_option maxHeartbeats 1000000
namespace Sl
open PySem PySem.Spec L2 OwnR LamX
section
variable {P : Program} {w : World} {K : PySem.W.Frag} {mg : Str → Option Value} {base : Heap}
/-! ### the property sections, len(road) -/
theorem scRSections : FnScope ["self"] ["self"] (defScope sRSections) := ⟨rfl, rfl, rfl, by decide +kernel, rfl, by decide +kernel, by decide +kernel⟩
theorem ok_rSections {f C lp kp : Addr} {fd : FuncData} (F : Fun K "sections" "Road.sections" sRSections f fd) (R : RoadT K w mg C lp kp) : FnOk P w K mg base CX0 1 f fd ["self"] (getSp C "_sections") := by
  obtain ⟨oc, od, kV, doc, pm, an, cdv, ct, osl, rfl, lk, hcd⟩ := F.ex
  exact fn_getter lk hcd scRSections rfl rfl R.cl R.nS
def spRLen (C : Addr) : Sp := fun vs H Q _ => ∃ (p : Addr) (secs : List Sec), vs = [.ref p] ∧ RoadAt C H p secs ∧ SecsOk secs ∧ Q (.int ((unitsL secs).length : Nat)) H
theorem scRLen : FnScope ["self"] ["self"] (defScope sRLen) := ⟨rfl, rfl, rfl, by decide +kernel, rfl, by decide +kernel, by decide +kernel⟩
theorem ok_rLen {f C lp kp : Addr} {fd : FuncData} (F : Fun K "__len__" "Road.__len__" sRLen f fd) (M : Mg mg) (R : RoadT K w mg C lp kp) : FnOk P w K mg base CX0 1 f fd ["self"] (spRLen C) := by
  refine F.ok scRLen (fun vs H Q E h => ?_) (fun cdv A outer s H vs Q E hr h => ?_)
  · obtain ⟨p, secs, rfl, _⟩ := h
    rfl
  · obtain ⟨p, secs, rfl, ⟨dx, t, u, hp, hs, hu⟩, S, k⟩ := h
    refine ⟨_, pss_one (ps_ret (pe_callB call_len_str (by rfl) M.len boot_len (pa_cons (pe_fld (pv 0) rfl) pa_nil))), ?_⟩
    have el : u.length = (unitsL secs).length := by rw [← hu]; simp [Str.length]
    have hz : u.length ≤ sizeLine := by
      rw [el, unitsL_len]
      have := sum_le fun s hs => (S.len s hs).2
      have := S.few
      exact Nat.le_trans (by omega : (secs.map (·.2)).sum ≤ 2000) (by decide)
    refine ⟨_, rfl, p, C, dx, _, _, rfl, hp, R.cl, R.nU, rf_units _ _, u, rfl, hz, ?_⟩
    rw [el]
    exact k
/-! ### _runs -/
def RunsAt (H : Hp) (a : Addr) (secs : List Sec) : Prop := ∃ ts : List Addr, H a = some (.lst (ts.map V.ref)) ∧ ts.length = secs.length ∧ ∀ (i : Nat) (t : Addr) (s : Sec), ts[i]? = some t → secs[i]? = some s → H t = some (.tup (secV s))
def spRuns : Sp := fun vs H Q _ => ∃ (u : Str) (bs : List Bool), vs = [.str u] ∧ u.cps.toList = bs.map letterC ∧ bs.length ≤ 1000 ∧ ∀ H' p, Same H H' → H p = none → RunsAt H' p (runsOf bs) → Q (.ref p) H'
def nRuns : List Str := ["units", "runs", "letter", "length"]
theorem scRuns : FnScope nRuns ["units"] (defScope sRuns) := ⟨rfl, rfl, rfl, by decide +kernel, rfl, by decide +kernel, by decide +kernel⟩
theorem letterS_eq (b : Bool) : (⟨#[letterC b]⟩ : Str) = letterS b := by cases b <;> decide +kernel
theorem letterS_inj (a b : Bool) : decide (V.str (letterS a) = V.str (letterS b)) = decide (a = b) := by cases a <;> cases b <;> decide +kernel
theorem snoc_of {α : Type} {l : List α} {m : Nat} (h : l.length = m + 1) : ∃ r x, l = r ++ [x] ∧ r.length = m := by
  have hne : l ≠ [] := fun z => by rw [z] at h; simp at h
  refine ⟨l.dropLast, l.getLast hne, (List.dropLast_concat_getLast hne).symm, ?_⟩
  rw [List.length_dropLast, h]
  rfl
structure RunsI (H H1 : Hp) (L : Addr) (acc : List Sec) (as : List Addr) : Prop where
  at_ : H1 L = some (.lst (as.map V.ref))
  len : as.length = acc.length
  nd : as.Nodup
  new : ∀ a ∈ as, H a = none ∧ a ≠ L
  it : ∀ (j : Nat) (a : Addr) (s : Sec), as[j]? = some a → acc[j]? = some s → H1 a = some (.lst [.str (letterS s.1), .int (s.2 : Nat)])
theorem RunsI.more {H H1 : Hp} {L : Addr} {acc : List Sec} {as : List Addr} (h : RunsI H H1 L acc as) (s1 : Same H H1) (hL : H L = none) {a : Addr} (ha : H1 a = none) (b : Bool) :
    RunsI H (upd (upd H1 a (.lst [.str (letterS b), .int 1])) L (.lst (as.map V.ref ++ [.ref a]))) L (acc ++ [(b, 1)]) (as ++ [a]) := by
  have naL : a ≠ L := fun z => by rw [z, h.at_] at ha; cases ha
  have nas : a ∉ as := fun z => by
    obtain ⟨j, hj⟩ := List.mem_iff_getElem?.mp z
    have hj2 : j < acc.length := by
      have := (List.getElem?_eq_some_iff.mp hj).1
      rw [← h.len]
      exact this
    have := h.it j a _ hj (List.getElem?_eq_getElem hj2)
    rw [ha] at this
    cases this
  refine ⟨by rw [upd_same, List.map_append]; rfl, by rw [List.length_append, List.length_append, h.len]; rfl, ?_, fun c hc => ?_, fun j c s e1 e2 => ?_⟩
  · rw [List.nodup_append]
    refine ⟨h.nd, by simp, fun x hx y hy => ?_⟩
    rw [List.mem_singleton.mp hy]
    exact fun z => nas (z ▸ hx)
  · rcases List.mem_append.mp hc with hc | hc
    · exact h.new c hc
    · rw [List.mem_singleton.mp hc]
      refine ⟨?_, naL⟩
      cases q : H a with
      | none => rfl
      | some o =>
        rw [s1 _ _ q] at ha
        cases ha
  · rcases Nat.lt_or_ge j as.length with lt | ge
    · rw [List.getElem?_append_left lt] at e1
      rw [List.getElem?_append_left (by rw [← h.len]; exact lt)] at e2
      have hc := List.mem_of_getElem? e1
      rw [upd_ne (h.new c hc).2, upd_ne (fun (z : c = a) => nas (by rw [← z]; exact hc))]
      exact h.it j c s e1 e2
    · rw [List.getElem?_append_right ge] at e1
      rw [List.getElem?_append_right (by rw [← h.len]; exact ge), ← h.len] at e2
      have e0 : j - as.length = 0 := by
        have := (List.getElem?_eq_some_iff.mp e1).1
        simp at this
        omega
      rw [e0] at e1 e2
      have e1 : a = c := by simpa using e1
      have e2 : (b, 1) = s := by simpa using e2
      subst e1 e2
      rw [upd_ne naL, upd_same]
      rfl
theorem RunsI.bump {H H1 : Hp} {L : Addr} {acc : List Sec} {as : List Addr} {k : Bool} {n : Nat} {a : Addr} (h : RunsI H H1 L (acc ++ [(k, n)]) (as ++ [a])) :
    RunsI H (upd H1 a (.lst [.str (letterS k), .int ((n : Nat) + 1)])) L (acc ++ [(k, n + 1)]) (as ++ [a]) := by
  have hl := h.len
  rw [List.length_append, List.length_append] at hl
  have hl : as.length = acc.length := by simpa using hl
  have na := h.new a (by simp)
  have nas : a ∉ as := fun z => by
    have := (List.nodup_append.mp h.nd).2.2 a z a (by simp)
    exact this rfl
  refine ⟨by rw [upd_ne na.2.symm]; exact h.at_, by simp [hl], h.nd, h.new, fun j c s e1 e2 => ?_⟩
  rcases Nat.lt_or_ge j as.length with lt | ge
  · rw [List.getElem?_append_left (by rw [← hl]; exact lt)] at e2
    have e1' := e1
    rw [List.getElem?_append_left lt] at e1'
    rw [upd_ne (fun (z : c = a) => nas (by rw [← z]; exact List.mem_of_getElem? e1'))]
    exact h.it j c s e1 (by rw [List.getElem?_append_left (by rw [← hl]; exact lt)]; exact e2)
  · rw [List.getElem?_append_right ge] at e1
    rw [List.getElem?_append_right (by rw [← hl]; exact ge), ← hl] at e2
    have e0 : j - as.length = 0 := by
      have := (List.getElem?_eq_some_iff.mp e1).1
      simp at this
      omega
    rw [e0] at e1 e2
    have e1 : a = c := by simpa using e1
    have e2 : (k, n + 1) = s := by simpa using e2
    subst e1 e2
    rw [upd_same]
    rfl
theorem ok_runs {f C lp kp : Addr} {fd : FuncData} (F : Fb K mg "_runs" sRuns ["units"] f fd) (R : RoadT K w mg C lp kp) : FnOk P w K mg base CX0 1 f fd ["units"] spRuns := by
  refine F.fn.ok scRuns (fun vs H Q E h => ?_) (fun cdv A outer s H vs Q E hr h => ?_)
  · obtain ⟨u, bs, rfl, _⟩ := h
    rfl
  · obtain ⟨u, bs, rfl, hu, hlen, k⟩ := h
    have nd := scRuns.nd
    refine ⟨_, pss_cons (ps_set (i := 1) nd rfl (.inl rfl) (pe_lst pa_nil))
      (pss_cons (ps_for PassesOwn.never rfl (pi_str (pv 0)) (pg_name (i := 2) nd rfl (.inl rfl))
        (pss_one (ps_if (PW.pt (pw_and (pt_truth (pv 1) (by intro _; rfl)) (pw_and1 (pt_cmpR op_eq (pe_ix ix_list (pe_ix ix_list (pv 1) (pe_un un_neg pe_int) (fun _ _ => rfl)) pe_int (fun _ _ => rfl)) (pv 2) (nomark _)))))
          (pss_one (ps_augS (pe_ix ix_list (pv 1) (pe_un un_neg pe_int) (fun _ _ => rfl)) pe_int pg_list pe_int ip_add set_list))
          (pss_one (ps_expr (pe_bm PySem.F.plainAttrs_list PySem.F.slot_list_append PySem.F.type_list_append mt_append (pv 1) (pa_cons (pe_lst (pa_cons (pv 2) (pa_cons pe_int pa_nil))) pa_nil)))))))
      (pss_one (ps_ret (pe_lc (own := [("letter", 2), ("length", 3)]) (g := gUnl K 2 (gCons (gName 2) (gCons (gName 3) gNil))) (tt := tYes) (te := tTup (tCons (tKGet1 K w (tC (.ref kp)) (tVar 2)) (tCons (tVar 3) tNil))) (by rfl) nd (pi_list (pv 1)) (blkOk_by (N := nRuns) (sc := defScope sRuns) (by decide +kernel))
        (fun _ _ _ _ _ => pg_unl rfl (pgs_cons (pg_name (i := 2) nd rfl (Or.inl rfl)) (pgs_cons (pg_name (i := 3) nd rfl (Or.inl rfl)) pgs_nil))) (fun _ _ _ _ _ => pts_nil)
        (fun _ _ _ _ _ => pe_tup (pa_cons (pe_kget1 (pe_glob (v := .ref kp) (by rfl) R.mgK rfl) (pv 2) ⟨rfl, rfl, rfl, rfl⟩) (pa_cons (pv 3) pa_nil))))))), ?_⟩
    refine ⟨Nat.zero_le _, fun L hL => ?_⟩
    have s0 : Same H (upd H L (.lst [])) := fun b o e => by rw [upd_ne (ne_of_none e hL)]; exact e
    have hsz : u.cps.size = bs.length := by
      have := congrArg List.length hu
      simpa using this
    refine ⟨_, rfl, u, rfl, for_it walk_str (fun i σ H1 => ∃ v2 as, σ = [some (.str u), some (.ref L), v2, none] ∧ Same H H1 ∧ RunsI H H1 L (runsOf (bs.take i)) as)
      ⟨none, [], rfl, s0, upd_same, rfl, by simp, fun a ha => by simp at ha, fun j a s e => by simp at e⟩ (fun _ _ _ _ _ => True.intro) ?_ ?_⟩
    · rintro i x σ H1 H2 hi ⟨v2, as, rfl, s1, I⟩ ⟨e, c, hc, ex⟩
      subst e
      have hib : i < bs.length := by rw [hsz] at hi; exact hi
      obtain ⟨b, hb⟩ : ∃ b, bs[i]? = some b := ⟨_, List.getElem?_eq_getElem hib⟩
      have ecb : c = letterC b := by
        have h1 : u.cps.toList[i]? = some c := by simpa using hc
        rw [hu, List.getElem?_map, hb] at h1
        exact (Option.some.inj h1).symm
      rw [ecb, letterS_eq] at ex
      subst ex
      rw [tk1 hb, runsOf_snoc]
      have hlen2 : (runsOf (bs.take i)).length ≤ 1000 := Nat.le_trans (runsOf_len _) (by rw [List.length_take]; omega)
      generalize runsOf (bs.take i) = acc at *
      cases hl : acc.getLast? with
      | none =>
        have ea : acc = [] := List.getLast?_eq_none_iff.mp hl
        subst ea
        have eas : as = [] := List.length_eq_zero_iff.mp I.len
        subst eas
        have er : rstep [] b = [(b, 1)] := rfl
        rw [er]
        have hat := I.at_
        refine ⟨_, rfl, false, .inl ⟨_, SqL.of hat, rfl⟩, iteF ?_⟩
        refine iteF ?_
        refine ⟨_, rfl, .inl ⟨rfl, _, SqL.of hat⟩, _, rfl, by show 2 ≤ sizeLine; decide, fun a ha => ?_⟩
        have naL : L ≠ a := ne_of_none hat ha
        refine ⟨L, _, .ref a, rfl, rfl, by rw [upd_ne naL]; exact hat, by show 0 < sizeLine; decide, ?_⟩
        exact ⟨_, [a], rfl, fun b' o e => by rw [upd_ne (ne_of_none e hL), upd_ne (ne_of_none (s1 _ _ e) ha)]; exact s1 _ _ e, I.more s1 hL ha b⟩
      | some r =>
        obtain ⟨k', n⟩ := r
        obtain ⟨acc', ea⟩ := List.getLast?_eq_some_iff.mp hl
        subst ea
        obtain ⟨as', a, eas, hl'⟩ := snoc_of (l := as) (m := acc'.length) (by rw [I.len]; simp)
        subst eas
        have hat := I.at_
        have hat2 : H2 L = some (.lst (as'.map V.ref ++ [V.ref a])) := by rw [hat, List.map_append]; rfl
        have ha := I.it acc'.length a (k', n) (by rw [← hl']; simp) (by simp)
        refine ⟨_, rfl, true, .inl ⟨_, SqL.of hat2, by simp⟩, iteT ?_⟩
        refine ⟨_, rfl, _, rfl, L, _, _, .ref a, rfl, rfl, SqL.of hat2, atI_last _ _, a, _, _, _, rfl, rfl, SqL.of ha, rfl, _, rfl, rfl, _, rfl, ?_⟩
        rw [letterS_inj]
        by_cases hk : k' = b
        · rw [decide_eq_true hk]
          refine iteT ?_
          have er : rstep (acc' ++ [(k', n)]) b = acc' ++ [(k', n + 1)] := by
            unfold rstep
            rw [hl]
            simp [hk]
          rw [er]
          refine ⟨_, rfl, _, rfl, L, _, _, .ref a, rfl, rfl, SqL.of hat2, atI_last _ _, a, _, _, _, rfl, rfl, SqL.of ha, rfl, _, _, rfl, rfl, a, _, _, 1, rfl, rfl, ha, rfl, ?_⟩
          have na := I.new a (by simp)
          exact ⟨_, _, rfl, fun b' o e => by rw [upd_ne (ne_of_none e na.1)]; exact s1 _ _ e, I.bump⟩
        · rw [decide_eq_false hk]
          refine iteF ?_
          have er : rstep (acc' ++ [(k', n)]) b = acc' ++ [(k', n)] ++ [(b, 1)] := by
            unfold rstep
            rw [hl]
            simp [hk]
          rw [er]
          refine ⟨_, rfl, .inl ⟨rfl, _, SqL.of hat⟩, _, rfl, by show 2 ≤ sizeLine; decide, fun a2 ha2 => ?_⟩
          have naL : L ≠ a2 := ne_of_none hat ha2
          refine ⟨L, _, .ref a2, rfl, rfl, by rw [upd_ne naL]; exact hat, ?_, ?_⟩
          · rw [List.length_map, I.len]
            exact small1000 hlen2
          · exact ⟨_, as' ++ [a] ++ [a2], rfl, fun b' o e => by rw [upd_ne (ne_of_none e hL), upd_ne (ne_of_none (s1 _ _ e) ha2)]; exact s1 _ _ e, I.more s1 hL ha2 b⟩
    · rintro σ H1 ⟨v2, as, rfl, s1, I⟩
      have e9 : bs.take u.cps.size = bs := by rw [hsz, List.take_length]
      rw [e9] at I
      have hlen2 := runsOf_len bs
      generalize runsOf bs = acc at *
      refine ⟨_, rfl, L, rfl, ⟨_, SqL.of I.at_⟩, fun D hD => ?_⟩
      have hL1 := I.at_
      have nDL : L ≠ D := ne_of_none hL1 hD
      have hlz : (as.map V.ref).length = acc.length := by rw [List.length_map, I.len]
      refine lc_it walk_list (fun i H2 => Same H1 H2 ∧ ∃ ts : List Addr, H2 D = some (.lst (ts.map V.ref)) ∧ ts.length = i ∧ ∀ (j : Nat) (t : Addr) (s : Sec), ts[j]? = some t → acc[j]? = some s → H2 t = some (.tup (secV s)))
        ⟨fun b o e => by rw [upd_ne (ne_of_none e hD)]; exact e, [], upd_same, rfl, fun j t s e => by simp at e⟩ (fun i H2 _ ⟨k2, _⟩ => SqL.of (k2 _ _ hL1)) ?_ ?_
      · rintro i y H2 H3 hi ⟨k2, ts, hD2, lts, hts⟩ ⟨e, hy⟩
        subst e
        have hic : i < acc.length := by rw [hlz] at hi; exact hi
        obtain ⟨a, ha, rfl⟩ : ∃ a, as[i]? = some a ∧ y = V.ref a := by
          rw [List.getElem?_map] at hy
          obtain ⟨t, z1, z2⟩ := Option.map_eq_some_iff.mp hy
          exact ⟨t, z1, z2.symm⟩
        have hc : acc[i]? = some acc[i] := List.getElem?_eq_getElem hic
        have hal := k2 _ _ (I.it i a _ ha hc)
        have hkd : KDct K w kp (letterS acc[i].1) (.str (kindS acc[i].1)) := by
          cases acc[i].1
          · exact R.kN
          · exact R.kW
        refine ⟨a, _, rfl, SqL.of hal, rfl, _, _, rfl, _, _, rfl, rfl, rfl, yes_of ?_⟩
        refine ⟨kp, rfl, R.kM, ⟨_, _, R.kN⟩, _, rfl, _, _, rfl, hkd, _, rfl, by show 2 ≤ sizeLine; decide, fun t ht => ?_⟩
        have nDt : D ≠ t := ne_of_none hD2 ht
        refine ⟨_, by rw [upd_ne nDt]; exact hD2, by rw [List.length_map, lts]; exact small1000 (by omega), fun b o e => ?_, ts ++ [t], by rw [upd_same, List.map_append]; rfl, by rw [List.length_append, lts]; rfl, fun j t2 s e1 e2 => ?_⟩
        · rw [upd_ne (ne_of_none e hD), upd_ne (ne_of_none (k2 _ _ e) ht)]
          exact k2 _ _ e
        · rcases Nat.lt_or_ge j ts.length with lt | ge
          · rw [List.getElem?_append_left lt] at e1
            have q := hts j t2 s e1 e2
            rw [upd_ne (ne_of q hD2 (by intro z; cases z)), upd_ne (ne_of_none q ht)]
            exact q
          · rw [List.getElem?_append_right ge] at e1
            have e0 : j - ts.length = 0 := by
              have := (List.getElem?_eq_some_iff.mp e1).1
              simp at this
              omega
            rw [e0] at e1
            have e1 : t = t2 := by simpa using e1
            subst e1
            have ej : j = i := by omega
            rw [ej, hc] at e2
            cases e2
            rw [upd_ne nDt.symm, upd_same]
            rfl
      · rintro H2 ⟨k2, ts, hD2, lts, hts⟩
        have hD0 : H D = none := by
          cases q : H D with
          | none => rfl
          | some o =>
            rw [s1 _ _ q] at hD
            cases hD
        exact k H2 D (s1.trans k2) hD0 ⟨ts, hD2, by rw [lts, hlz], hts⟩
end
end Sl

set_option Elab.async false
set_option linter.all false
set_option maxRecDepth 100000
set_option maxHeartbeats 1000000
namespace Sl
open PySem PySem.Spec L2 OwnR LamX
abbrev spRInit (C : Addr) : Sp := fun vs H Q E => ∃ ws rest, vs = ws ++ rest ∧ ws.length = (["self"] : List Str).length ∧ rest.length ≤ sizeLine ∧ ∀ p, H p = Option.none → spRInit0 C (ws ++ [V.ref p]) (upd H p (.tup rest)) Q E
section
variable {P : Program} {w : World} {K : PySem.W.Frag} {mg : Str → Option Value} {base : Heap}
def spOfUnits (C : Addr) : Sp := fun vs H Q _ => ∃ (u : Str) (bs : List Bool), vs = [.ref C, .str u] ∧ u.cps.toList = bs.map letterC ∧ bs.length ≤ 1000 ∧ SecsOk (runsOf bs) ∧ ∀ H' p, Same H H' → H p = none → RoadAt C H' p (runsOf bs) → Q (.ref p) H'
theorem scOfUnits : FnScope ["cls", "units", "sections"] ["cls", "units"] (defScope sROfUnits) := ⟨rfl, rfl, rfl, by decide +kernel, rfl, by decide +kernel, by decide +kernel⟩
theorem ok_ofUnits {f fI fR C lp kp : Addr} {fd dR : FuncData} (F : Fun K "of_units" "Road.of_units" sROfUnits f fd) (M : Mg mg) (R : RoadT K w mg C lp kp) (MK : Mk K C fI) (BR : Fb K mg "_runs" sRuns ["units"] fR dR)
    (GR : FnOk P w K mg base CX0 1 fR dR ["units"] spRuns) (GI : FnR P w K mg base CX0 3 fI (spRInit C)) : FnOk P w K mg base CX0 5 f fd ["cls", "units"] (spOfUnits C) := by
  refine F.ok scOfUnits (fun vs H Q E h => ?_) (fun cdv A outer s H vs Q E hr h => ?_)
  · obtain ⟨u, bs, rfl, _⟩ := h
    rfl
  · obtain ⟨u, bs, rfl, hu, hlen, S, k⟩ := h
    have nd := scOfUnits.nd
    refine ⟨_, pss_cons (ps_if (pt_not (pt_val (pe_callB call_isi (by rfl) M.isinstance boot_isinstance (pa_cons (pv 1) (pa_cons (pe_bltn (v := .ty "str") (by rfl) M.str boot_tStr rfl) pa_nil))))) (pss_one ps_never) pss_nil)
      (pss_cons (ps_set (i := 2) nd rfl (.inl rfl) (pe_call GR (hr.mono (by decide)) (by rfl) BR.at_ BR.fn.kp BR.bd .nil pass0 (pa_cons (pv 1) pa_nil)))
      (pss_one (ps_ret (pe_makeLS MK GI hr pass0 (pv 0) (pv 2))))), ?_⟩
    refine ⟨_, rfl, _, _, _, _, true, rfl, .ty _, .base (.str u), kit_ty (by decide +kernel), true, rfl, iteF ?_⟩
    refine ⟨_, rfl, u, bs, rfl, hu, hlen, fun H1 p s1 hp ⟨ts, h1, h2, h3⟩ => ?_⟩
    refine ⟨_, rfl, rfl, _, rfl, p, ts.map V.ref, rfl, .inr (SqL.of h1), fun x dx hx hdx ne => ?_⟩
    refine ⟨[.ref x], ts.map V.ref, rfl, rfl, by rw [List.length_map, h2]; have := S.few; exact Nat.le_of_lt (small1000 (by omega)), fun t ht => ?_⟩
    have hxt : x ≠ t := fun z => by
      rw [← z, upd_same] at ht
      cases ht
    have old : ∀ b o, H1 b = some o → (upd (upd (upd H1 dx (.own x)) x (.ins C dx [])) t (.tup (ts.map V.ref))) b = some o := fun b o e => by
      have e2 : (upd (upd H1 dx (.own x)) x (.ins C dx [])) b = some o := by
        rw [upd_ne (ne_of_none e hx), upd_ne (ne_of_none e hdx)]
        exact e
      rw [upd_ne (ne_of_none e2 ht)]
      exact e2
    refine ⟨x, dx, t, runsOf bs, rfl, by rw [upd_ne hxt, upd_same], ⟨ts, upd_same, h2, fun i a s e1 e2 => old _ _ (h3 i a s e1 e2)⟩, S, fun H2 us kp hX hus => ⟨rfl, ?_⟩⟩
    refine k H2 x (fun b o e => kp b o (old _ _ (s1 _ _ e)) (ne_of_none (s1 _ _ e) hx)) ?_ ⟨dx, t, us, hX, ⟨ts, ?_, h2, fun i a s e1 e2 => ?_⟩, hus⟩
    · cases q : H x with
      | none => rfl
      | some o =>
        rw [s1 _ _ q] at hx
        cases hx
    · exact kp _ _ upd_same hxt.symm
    · have q := h3 i a s e1 e2
      exact kp _ _ (old _ _ q) (ne_of_none q hx)
end
end Sl

/-! Driving, place by place. -/
namespace Sl
open OwnR
section
variable {N : Type} [DecidableEq N]
/-- the cars at a place: their order, their ticks -/
structure Pl (N : Type) where
  ord : List N
  tk : N → Int
def freeP (pace : N → Int) (p : Pl N) (len : Nat) (n : N) : Int := p.tk n + pace n * (len : Int)
def stepP (pace : N → Int) (p : Pl N) (s : Bool × Nat) : Pl N :=
  if s.1 then ⟨sortBy (freeP pace p s.2) p.ord, freeP pace p s.2⟩ else ⟨p.ord, tickOf (foll (freeP pace p s.2) p.ord)⟩
def leadP (pace : N → Int) (p : Pl N) (s : Bool × Nat) (n : N) : Option N := if s.1 then none else leadOf (foll (freeP pace p s.2) p.ord) n
def plc (pace : N → Int) (p0 : Pl N) (secs : List (Bool × Nat)) (k : Nat) : Pl N := (secs.take k).foldl (stepP pace) p0
theorem plc_zero (pace : N → Int) (p0 : Pl N) (secs : List (Bool × Nat)) : plc pace p0 secs 0 = p0 := rfl
theorem plc_succ (pace : N → Int) (p0 : Pl N) (secs : List (Bool × Nat)) {k : Nat} {s : Bool × Nat} (h : secs[k]? = some s) : plc pace p0 secs (k + 1) = stepP pace (plc pace p0 secs k) s := by
  unfold plc
  rw [List.take_add_one, h, List.foldl_append]
  rfl
/-- the leader in the section k -/
def ldr (pace : N → Int) (p0 : Pl N) (secs : List (Bool × Nat)) (k : Nat) (n : N) : Option N := match secs[k]? with
  | none => none
  | some s => leadP pace (plc pace p0 secs k) s n
theorem stepP_perm (pace : N → Int) (p : Pl N) (s : Bool × Nat) : (stepP pace p s).ord.Perm p.ord := by
  unfold stepP
  split
  · exact sortBy_perm _ _
  · exact List.Perm.refl _
theorem fold_perm (pace : N → Int) : ∀ (l : List (Bool × Nat)) (p : Pl N), (l.foldl (stepP pace) p).ord.Perm p.ord
  | [], _ => List.Perm.refl _
  | s :: r, p => (fold_perm pace r (stepP pace p s)).trans (stepP_perm pace p s)
theorem plc_perm (pace : N → Int) (p0 : Pl N) (secs : List (Bool × Nat)) (k : Nat) : (plc pace p0 secs k).ord.Perm p0.ord := fold_perm pace _ p0
end
end Sl

set_option Elab.async false
set_option linter.all false
set_option maxRecDepth 100000
set_option maxHeartbeats 1000000
namespace Sl
open PySem PySem.Spec L2 OwnR LamX
/-! ### a Drive's attributes -/
theorem k_ps : ¬ (("_paces" : Str) = "_sections") := by decide +kernel
theorem k_ts : ¬ (("_ticks" : Str) = "_sections") := by decide +kernel
theorem k_tp : ¬ (("_ticks" : Str) = "_paces") := by decide +kernel
theorem k_os : ¬ (("_orders" : Str) = "_sections") := by decide +kernel
theorem k_op : ¬ (("_orders" : Str) = "_paces") := by decide +kernel
theorem k_ot : ¬ (("_orders" : Str) = "_ticks") := by decide +kernel
theorem k_ls : ¬ (("_leaders" : Str) = "_sections") := by decide +kernel
theorem k_lp : ¬ (("_leaders" : Str) = "_paces") := by decide +kernel
theorem k_lt : ¬ (("_leaders" : Str) = "_ticks") := by decide +kernel
theorem k_lo : ¬ (("_leaders" : Str) = "_orders") := by decide +kernel
def df1 (sc : Addr) : List (Str × V) := putF "_sections" (.ref sc) []
def df2 (sc pd : Addr) : List (Str × V) := putF "_paces" (.ref pd) (df1 sc)
def df3 (sc pd lt : Addr) : List (Str × V) := putF "_ticks" (.ref lt) (df2 sc pd)
def df4 (sc pd lt lo : Addr) : List (Str × V) := putF "_orders" (.ref lo) (df3 sc pd lt)
def df5 (sc pd lt lo ll : Addr) : List (Str × V) := putF "_leaders" (.ref ll) (df4 sc pd lt lo)
section
variable (sc pd lt lo ll : Addr)
theorem df2_paces : (df2 sc pd).lookup ("_paces" : Str) = some (.ref pd) := by unfold df2; rw [lookup_putF, if_pos rfl]
theorem df3_ticks : (df3 sc pd lt).lookup ("_ticks" : Str) = some (.ref lt) := by unfold df3; rw [lookup_putF, if_pos rfl]
theorem df3_paces : (df3 sc pd lt).lookup ("_paces" : Str) = some (.ref pd) := by unfold df3; rw [lookup_putF, if_neg (Ne.symm k_tp)]; exact df2_paces sc pd
theorem df5_sections : (df5 sc pd lt lo ll).lookup ("_sections" : Str) = some (.ref sc) := by
  unfold df5 df4 df3 df2 df1
  rw [lookup_putF, if_neg (Ne.symm k_ls), lookup_putF, if_neg (Ne.symm k_os), lookup_putF, if_neg (Ne.symm k_ts), lookup_putF, if_neg (Ne.symm k_ps), lookup_putF, if_pos rfl]
theorem df5_paces : (df5 sc pd lt lo ll).lookup ("_paces" : Str) = some (.ref pd) := by
  unfold df5 df4
  rw [lookup_putF, if_neg (Ne.symm k_lp), lookup_putF, if_neg (Ne.symm k_op)]
  exact df3_paces sc pd lt
theorem df5_ticks : (df5 sc pd lt lo ll).lookup ("_ticks" : Str) = some (.ref lt) := by
  unfold df5 df4
  rw [lookup_putF, if_neg (Ne.symm k_lt), lookup_putF, if_neg (Ne.symm k_ot)]
  exact df3_ticks sc pd lt
theorem df5_orders : (df5 sc pd lt lo ll).lookup ("_orders" : Str) = some (.ref lo) := by
  unfold df5 df4
  rw [lookup_putF, if_neg (Ne.symm k_lo), lookup_putF, if_pos rfl]
theorem df5_leaders : (df5 sc pd lt lo ll).lookup ("_leaders" : Str) = some (.ref ll) := by
  unfold df5
  rw [lookup_putF, if_pos rfl]
theorem df5_no {m : Str} (h1 : ¬ m = "_sections") (h2 : ¬ m = "_paces") (h3 : ¬ m = "_ticks") (h4 : ¬ m = "_orders") (h5 : ¬ m = "_leaders") : (df5 sc pd lt lo ll).lookup m = none := by
  unfold df5 df4 df3 df2 df1
  rw [lookup_putF, if_neg h5, lookup_putF, if_neg h4, lookup_putF, if_neg h3, lookup_putF, if_neg h2, lookup_putF, if_neg h1]
  rfl
theorem df1_len : (df1 sc).length = 1 := rfl
theorem putF_len (f : Str) (v : V) : ∀ l : List (Str × V), (putF f v l).length ≤ l.length + 1
  | [] => by simp [putF]
  | (g, x) :: r => by
    unfold putF
    split
    · simp
    · have := putF_len f v r
      simp
      omega
end
/-! ### cars as functions of their names -/
def names (cars : List Car) : List Str := cars.map (·.name)
def paceOf (cars : List Car) (n : Str) : Int := ((cars.find? fun c => decide (c.name = n)).map (·.pace)).getD 0
def startOf (cars : List Car) (n : Str) : Int := ((cars.find? fun c => decide (c.name = n)).map (·.start)).getD 0
def pl0 (cars : List Car) : Pl Str := ⟨sortBy (startOf cars) (names cars), startOf cars⟩
abbrev plcC (secs : List Sec) (cars : List Car) (k : Nat) : Pl Str := plc (paceOf cars) (pl0 cars) secs k
abbrev ldrC (secs : List Sec) (cars : List Car) (k : Nat) (n : Str) : Option Str := ldr (paceOf cars) (pl0 cars) secs k n
theorem find_car {cars : List Car} (nd : (names cars).Nodup) {c : Car} (h : c ∈ cars) : cars.find? (fun d => decide (d.name = c.name)) = some c := by
  induction cars with
  | nil => cases h
  | cons a l ih =>
    unfold names at nd
    rw [List.map_cons, List.nodup_cons] at nd
    rcases List.mem_cons.mp h with e | h
    · subst e
      simp
    · have hne : ¬ a.name = c.name := fun z => nd.1 (by rw [z]; exact List.mem_map.mpr ⟨c, h, rfl⟩)
      rw [List.find?_cons, decide_eq_false hne]
      exact ih nd.2 h
theorem paceOf_car {cars : List Car} (nd : (names cars).Nodup) {c : Car} (h : c ∈ cars) : paceOf cars c.name = c.pace := by
  unfold paceOf
  rw [find_car nd h]
  rfl
theorem startOf_car {cars : List Car} (nd : (names cars).Nodup) {c : Car} (h : c ∈ cars) : startOf cars c.name = c.start := by
  unfold startOf
  rw [find_car nd h]
  rfl
theorem pl0_perm (cars : List Car) : (pl0 cars).ord.Perm (names cars) := sortBy_perm _ _
theorem plcC_perm (secs : List Sec) (cars : List Car) (k : Nat) : (plcC secs cars k).ord.Perm (names cars) := (plc_perm _ _ _ _).trans (pl0_perm cars)
/-- the dict of the paces -/
def paceK (cars : List Car) : List (Key × V) := cars.map fun c => (Sum.inr c.name, V.int c.pace)
theorem valV_names {g : Car → V} {cars : List Car} (nd : (names cars).Nodup) {c : Car} (h : c ∈ cars) : valV (cars.map fun c => ((Sum.inr c.name : Key), g c)) (Sum.inr c.name : Key) = some (g c) := by
  induction cars with
  | nil => cases h
  | cons a l ih =>
    unfold names at nd
    rw [List.map_cons, List.nodup_cons] at nd
    rcases List.mem_cons.mp h with e | h
    · subst e
      exact valV_pos rfl
    · have hne : ¬ (Sum.inr a.name : Key) = Sum.inr c.name := fun z => nd.1 (by rw [Sum.inr.inj z]; exact List.mem_map.mpr ⟨c, h, rfl⟩)
      rw [List.map_cons, valV_neg hne]
      exact ih nd.2 h
theorem paceK_get {cars : List Car} (nd : (names cars).Nodup) {n : Str} (h : n ∈ names cars) : valV (paceK cars) (Sum.inr n : Key) = some (.int (paceOf cars n)) := by
  obtain ⟨c, hc, rfl⟩ := List.mem_map.mp h
  rw [paceOf_car nd hc]
  exact valV_names (g := fun c => V.int c.pace) nd hc
/-! ### a Drive of which m sections are driven -/
structure DW where
  dx : Addr
  sc : Addr
  pd : Addr
  lt : Addr
  lo : Addr
  ll : Addr
  tds : List Addr
  ods : List Addr
  lds : List Addr
structure DP (C : Addr) (H0 H : Hp) (p : Addr) (secs : List Sec) (cars : List Car) (m : Nat) (W : DW) : Prop where
  ext : ExtN H0 H
  ins : H p = some (.ins C W.dx (df5 W.sc W.pd W.lt W.lo W.ll))
  sec : SecsAt H W.sc secs
  pac : H W.pd = some (.dK (paceK cars))
  lt : H W.lt = some (.lst (W.tds.map V.ref))
  ltl : W.tds.length = m + 1
  lo : H W.lo = some (.lst (W.ods.map V.ref))
  lol : W.ods.length = m + 1
  ll : H W.ll = some (.lst (W.lds.map V.ref))
  lll : W.lds.length = m
  tk : ∀ (k : Nat) (d : Addr), W.tds[k]? = some d → ∃ kv, H d = some (.dK kv) ∧ ∀ n ∈ names cars, valV kv (Sum.inr n : Key) = some (.int ((plcC secs cars k).tk n))
  od : ∀ (k : Nat) (d : Addr), W.ods[k]? = some d → H d = some (.lst ((plcC secs cars k).ord.map V.str))
  ld : ∀ (k : Nat) (d : Addr), W.lds[k]? = some d → ∃ kv, H d = some (.dK kv) ∧ ∀ n, valV kv (Sum.inr n : Key) = (ldrC secs cars k n).map V.str
  newp : New H0 p
  newt : New H0 W.lt
  newo : New H0 W.lo
  newl : New H0 W.ll
  nto : W.lt ≠ W.lo
  ntl : W.lt ≠ W.ll
  nol : W.lo ≠ W.ll
  odn : ∀ d ∈ W.ods, d ≠ W.lt ∧ d ≠ W.lo ∧ d ≠ W.ll
theorem DP.step {C : Addr} {H0 H H' : Hp} {p : Addr} {secs : List Sec} {cars : List Car} {m : Nat} {W : DW} (D : DP C H0 H p secs cars m W) (e : ExtN H H') : DP C H0 H' p secs cars m W where
  ext := D.ext.trans e
  ins := ExtN.ins e D.ins
  sec := D.sec.ext e
  pac := ExtN.dK e D.pac
  lt := ExtN.lst e D.lt
  ltl := D.ltl
  lo := ExtN.lst e D.lo
  lol := D.lol
  ll := ExtN.lst e D.ll
  lll := D.lll
  tk := fun k d h => let ⟨kv, a, b⟩ := D.tk k d h; ⟨kv, ExtN.dK e a, b⟩
  od := fun k d h => ExtN.lst e (D.od k d h)
  ld := fun k d h => let ⟨kv, a, b⟩ := D.ld k d h; ⟨kv, ExtN.dK e a, b⟩
  newp := D.newp
  newt := D.newt
  newo := D.newo
  newl := D.newl
  nto := D.nto
  ntl := D.ntl
  nol := D.nol
  odn := D.odn
/-- the lists of a drive of which m sections are driven, wherever they stand -/
structure DL (H0 H : Hp) (secs : List Sec) (cars : List Car) (m : Nat) (W : DW) : Prop where
  ext : ExtN H0 H
  lt : H W.lt = some (.lst (W.tds.map V.ref))
  ltl : W.tds.length = m + 1
  lo : H W.lo = some (.lst (W.ods.map V.ref))
  lol : W.ods.length = m + 1
  ll : H W.ll = some (.lst (W.lds.map V.ref))
  lll : W.lds.length = m
  tk : ∀ (k : Nat) (d : Addr), W.tds[k]? = some d → ∃ kv, H d = some (.dK kv) ∧ ∀ n ∈ names cars, valV kv (Sum.inr n : Key) = some (.int ((plcC secs cars k).tk n))
  od : ∀ (k : Nat) (d : Addr), W.ods[k]? = some d → H d = some (.lst ((plcC secs cars k).ord.map V.str))
  ld : ∀ (k : Nat) (d : Addr), W.lds[k]? = some d → ∃ kv, H d = some (.dK kv) ∧ ∀ n, valV kv (Sum.inr n : Key) = (ldrC secs cars k n).map V.str
  newt : New H0 W.lt
  newo : New H0 W.lo
  newl : New H0 W.ll
  nto : W.lt ≠ W.lo
  ntl : W.lt ≠ W.ll
  nol : W.lo ≠ W.ll
  odn : ∀ d ∈ W.ods, d ≠ W.lt ∧ d ≠ W.lo ∧ d ≠ W.ll
theorem DL.step {H0 H H' : Hp} {secs : List Sec} {cars : List Car} {m : Nat} {W : DW} (D : DL H0 H secs cars m W) (e : ExtN H H') : DL H0 H' secs cars m W where
  ext := D.ext.trans e
  lt := ExtN.lst e D.lt
  ltl := D.ltl
  lo := ExtN.lst e D.lo
  lol := D.lol
  ll := ExtN.lst e D.ll
  lll := D.lll
  tk := fun k d h => let ⟨kv, a, b⟩ := D.tk k d h; ⟨kv, ExtN.dK e a, b⟩
  od := fun k d h => ExtN.lst e (D.od k d h)
  ld := fun k d h => let ⟨kv, a, b⟩ := D.ld k d h; ⟨kv, ExtN.dK e a, b⟩
  newt := D.newt
  newo := D.newo
  newl := D.newl
  nto := D.nto
  ntl := D.ntl
  nol := D.nol
  odn := D.odn
/-- the dict of the starts -/
def startK (cars : List Car) : List (Key × V) := cars.map fun c => (Sum.inr c.name, V.int c.start)
theorem startK_get {cars : List Car} (nd : (names cars).Nodup) {n : Str} (h : n ∈ names cars) : valV (startK cars) (Sum.inr n : Key) = some (.int (startOf cars n)) := by
  obtain ⟨c, hc, rfl⟩ := List.mem_map.mp h
  rw [startOf_car nd hc]
  exact valV_names (g := fun c => V.int c.start) nd hc
theorem startK_keys (cars : List Car) : (startK cars).map (fun kv => kV kv.1) = (names cars).map V.str := by
  unfold startK names
  rw [List.map_map, List.map_map]
  rfl
end Sl

set_option Elab.async false
set_option linter.all false
set_option maxRecDepth 100000
set_option maxHeartbeats 2000000
namespace OwnR
open PySem PySem.Spec PyProof.Rows L2
/-! ### y = {k: v for x in xs} as a statement -/
theorem ps_setDc {X : Cx} {i : Nat} {y : Str} {py : Pos} {kx vx tg iter : Expr} {ifs : List Expr} {scope : Scope} {own : List (Str × Nat)} {pos spos : Pos} {wi : TI} {g : TG} {tt : TT} {tk tv : TE} (hc : X.calm = true) (hN : X.N.Nodup) (hy : X.N[i]? = some y) (hyl : X.env.scope.names.lookup y = some .local)
    (hsw : swapsWith (.DictComp kx vx [⟨tg, iter, ifs, 0⟩] scope pos) (some (.Name y py)) spos.line X.env = pure true) (hi : PI X tg iter wi) (ok : BlkOk X.N X.env.scope scope own)
    (hg : ∀ (s : Shared) (H : Hp) (C : Addr) (cl : List (Str × Addr)) (fp : List Addr), PG (X.blk s H scope (compEnvC scope cl C X.env) fp) tg g)
    (ht : ∀ (s : Shared) (H : Hp) (C : Addr) (cl : List (Str × Addr)) (fp : List Addr), PTs (X.blk s H scope (compEnvC scope cl C X.env) fp) ifs tt)
    (hk : ∀ (s : Shared) (H : Hp) (C : Addr) (cl : List (Str × Addr)) (fp : List Addr), PE (X.blk s H scope (compEnvC scope cl C X.env) fp) kx tk)
    (hv : ∀ (s : Shared) (H : Hp) (C : Addr) (cl : List (Str × Addr)) (fp : List Addr), PE (X.blk s H scope (compEnvC scope cl C X.env) fp) vx tv) (hs : ∀ x, foldedSetIterable iter X.env x = pure x := by intro _; rfl) :
    PS X (.Assign [.Name y py] (.DictComp kx vx [⟨tg, iter, ifs, 0⟩] scope pos) spos) (tAsg (tDc wi g tt tk tv (own.map (·.2))) (gName i)) := by
  refine ⟨fun pins s σ H D I h => ?_⟩
  have h' : tDc wi g tt tk tv (own.map (·.2)) σ H (fun x H1 => gName i x σ H1 D.nx) := h
  rw [exec_Assign_Name_used _ _ _ _ hsw]
  refine wpAny_bind (wpAny_standAt (wpAny_bind ?_))
  show wpAny _ X.A (do let _ ← comprehension (.DictComp kx vx [⟨tg, iter, ifs, 0⟩] scope pos) scope X.env (firstIterPos [⟨tg, iter, ifs, 0⟩] pos) newDict false (eval iter X.env) (some (assign (.Name y py) X.env))) _ _ s
  refine wpAny_bind (thn (dc_core (Qf := fun _ s' => SP X pins D .next s') hc hN I hi ok hg ht hk hv hs h' fun Dn C s' m H' J q hn f => ?_) fun _ s' hq => wpAny_pure (wpAny_pure hq))
  obtain ⟨f0, f1, f2, f3, f4, f5⟩ := f
  show wpAny _ _ (assign (.Name y py) X.env (.ref Dn)) _ _ _
  refine wpAny_assign_Name (store_ok2 (v := V.ref Dn) J hN hy (.inl hyl) rfl (fun s2 J2 ⟨a, sb, ha⟩ => ?_) (.inr hyl))
  have nCa : C ≠ a := ha.elim (fun z => by rw [z]; exact f1) fun z => fun e => f4 y a z e.symm
  exact ⟨m, hn.sameBut sb nCa, fun h3 sb3 => ⟨_, H', J2.turned (t' := s2.toks) (fun b o hb e => (sb3.2 b hb).trans e) f0 f1 f3 f4 f5, q⟩⟩
theorem sw_trueD {kx vx : Expr} {gs : List Comprehension} {scope : Scope} {pos py : Pos} {y : Str} {l : Nat} {env : Env} (hk : env.scope.kind = .function) (hy : env.scope.names.lookup y = some .local) (hl : (py.line == pos.line) = true)
    (ha : (scope.names.any fun (n, k) => n == y && (k == .local || k == .cell)) = false) : swapsWith (.DictComp kx vx gs scope pos) (some (.Name y py)) l env = pure true := by
  have k1 : env.kindOf y = some .local := hy
  have k2 : env.blockKind = .function := by
    unfold Env.blockKind
    rw [hk] <;> rfl
  unfold swapsWith
  simp only [k2, k1, ha, Expr.pos, hl] <;> rfl
end OwnR

set_option Elab.async false
set_option linter.all false
set_option maxRecDepth 100000
set_option maxHeartbeats 2000000
namespace OwnR
open PySem PySem.Spec PyProof.Rows L2
/-! ### a field as a target among others -/
def gFld (K : PySem.W.Frag) (ta : TE) (f : Str) : TG := fun v σ H Q => ta σ H fun x H1 => ∃ a C dx fs, x = .ref a ∧ H1 a = some (.ins C dx fs) ∧ Cls K C ∧ NoAttr K C f ∧ fs.length < 1000 ∧ Q σ (upd H1 a (.ins C dx (putF f v fs)))
theorem pg_fld {X : Cx} {o : Expr} {f : Str} {pos : Pos} {ta : TE} (ha : PE X o ta) : PG X (.Attribute o f pos) (gFld X.K ta f) := by
  refine ⟨fun pins s σ H v u Q I r h => ?_⟩
  rw [assign_Attribute]
  refine wpAny_bind (wpAny_holding (thn (ha.run pins s σ H _ I h) fun ov s1 ⟨x, H1, I1, rx, a, C, dx, fs, ex, ea, c, n, l, q⟩ => ?_))
  subst ex
  obtain rfl : ov = Value.ref a := rx
  refine wpAny_bind (wpAny_standAt (wpAny_bind (wpAny_holding (setattr_ok I1 ea c n l r fun s3 I3 => ?_))))
  exact wpAny_release ⟨σ, _, I3, q⟩
end OwnR

set_option Elab.async false
set_option linter.all false
set_option maxRecDepth 100000
set_option maxHeartbeats 1000000
namespace Sl
open PySem PySem.Spec L2 OwnR LamX
/-- three lists of a Drive, each one longer -/
def upd3 (H : Hp) (W : DW) (td od ld : Addr) : Hp := upd (upd (upd H W.lt (.lst (W.tds.map V.ref ++ [.ref td]))) W.lo (.lst (W.ods.map V.ref ++ [.ref od]))) W.ll (.lst (W.lds.map V.ref ++ [.ref ld]))
def DW.more (W : DW) (td od ld : Addr) : DW := { W with tds := W.tds ++ [td], ods := W.ods ++ [od], lds := W.lds ++ [ld] }
theorem snoc_get {α : Type} {l : List α} {x y : α} {k : Nat} (h : (l ++ [x])[k]? = some y) : l[k]? = some y ∨ (k = l.length ∧ x = y) := by
  rcases Nat.lt_or_ge k l.length with lt | ge
  · rw [List.getElem?_append_left lt] at h
    exact .inl h
  · rw [List.getElem?_append_right ge] at h
    have e0 : k - l.length = 0 := by
      have := (List.getElem?_eq_some_iff.mp h).1
      simp at this
      omega
    rw [e0] at h
    exact .inr ⟨by omega, by simpa using h⟩
theorem DL.push {H0 H : Hp} {secs : List Sec} {cars : List Car} {m : Nat} {W : DW} (D : DL H0 H secs cars m W) {td od ld : Addr} {kt kl : List (Key × V)}
    (h1 : H td = some (.dK kt)) (t1 : ∀ n ∈ names cars, valV kt (Sum.inr n : Key) = some (.int ((plcC secs cars (m + 1)).tk n)))
    (h2 : H od = some (.lst ((plcC secs cars (m + 1)).ord.map V.str))) (o2 : od ≠ W.lt ∧ od ≠ W.lo ∧ od ≠ W.ll)
    (h3 : H ld = some (.dK kl)) (l3 : ∀ n, valV kl (Sum.inr n : Key) = (ldrC secs cars m n).map V.str) : DL H0 (upd3 H W td od ld) secs cars (m + 1) (W.more td od ld) := by
  have old : ∀ b o, H b = some o → b ≠ W.lt → b ≠ W.lo → b ≠ W.ll → upd3 H W td od ld b = some o := fun b o e n1 n2 n3 => by
    unfold upd3
    rw [upd_ne n3, upd_ne n2, upd_ne n1]
    exact e
  have nl : ∀ b o, H b = some o → (∀ xs, o ≠ .lst xs) → upd3 H W td od ld b = some o := fun b o e n =>
    old b o e (ne_of e D.lt (n _)) (ne_of e D.lo (n _)) (ne_of e D.ll (n _))
  refine { D with ext := ?_, lt := ?_, ltl := ?_, lo := ?_, lol := ?_, ll := ?_, lll := ?_, tk := ?_, od := ?_, ld := ?_, odn := ?_ }
  · exact fun b o e n => old b o (D.ext b o e n) (D.newt b o e n) (D.newo b o e n) (D.newl b o e n)
  · show upd3 H W td od ld W.lt = some (.lst ((W.tds ++ [td]).map V.ref))
    unfold upd3
    rw [upd_ne D.ntl, upd_ne D.nto, upd_same, List.map_append]
    rfl
  · show (W.tds ++ [td]).length = _
    rw [List.length_append, D.ltl]
    rfl
  · show upd3 H W td od ld W.lo = some (.lst ((W.ods ++ [od]).map V.ref))
    unfold upd3
    rw [upd_ne D.nol, upd_same, List.map_append]
    rfl
  · show (W.ods ++ [od]).length = _
    rw [List.length_append, D.lol]
    rfl
  · show upd3 H W td od ld W.ll = some (.lst ((W.lds ++ [ld]).map V.ref))
    unfold upd3
    rw [upd_same, List.map_append]
    rfl
  · show (W.lds ++ [ld]).length = _
    rw [List.length_append, D.lll]
    rfl
  · intro k d h
    rcases snoc_get (show (W.tds ++ [td])[k]? = some d from h) with h | ⟨hk, rfl⟩
    · obtain ⟨kv, a, b⟩ := D.tk k d h
      exact ⟨kv, nl _ _ a fun xs z => (nomatch z), b⟩
    · rw [D.ltl] at hk
      subst hk
      exact ⟨kt, nl _ _ h1 fun xs z => (nomatch z), t1⟩
  · intro k d h
    rcases snoc_get (show (W.ods ++ [od])[k]? = some d from h) with h | ⟨hk, rfl⟩
    · have q := D.odn d (List.mem_of_getElem? h)
      exact old _ _ (D.od k d h) q.1 q.2.1 q.2.2
    · rw [D.lol] at hk
      subst hk
      exact old _ _ h2 o2.1 o2.2.1 o2.2.2
  · intro k d h
    rcases snoc_get (show (W.lds ++ [ld])[k]? = some d from h) with h | ⟨hk, rfl⟩
    · obtain ⟨kv, a, b⟩ := D.ld k d h
      exact ⟨kv, nl _ _ a fun xs z => (nomatch z), b⟩
    · rw [D.lll] at hk
      subst hk
      exact ⟨kl, nl _ _ h3 fun xs z => (nomatch z), l3⟩
  · intro d hd
    rcases List.mem_append.mp (show d ∈ W.ods ++ [od] from hd) with hd | hd
    · exact D.odn d hd
    · rw [List.mem_singleton.mp hd]
      exact o2
theorem Tabs.keepL {T : List (Addr × Str)} {H H' : Hp} (t : Tabs T H) (e : ∀ b o, H b = some o → (∀ xs, o ≠ .lst xs) → H' b = some o) : Tabs T H' := fun p hp => by
  obtain ⟨ps, h1, h2, h3⟩ := t p hp
  refine ⟨ps, e _ _ h1 fun xs z => (nomatch z), h2, fun pos cv hc => ?_⟩
  obtain ⟨c, e1, e2⟩ := h3 pos cv hc
  exact ⟨c, e1, e _ _ e2 fun xs z => by unfold CodeO at z; cases z⟩
theorem upd3_keep {H : Hp} {W : DW} {td od ld : Addr} {a b c : List V} (h1 : H W.lt = some (.lst a)) (h2 : H W.lo = some (.lst b)) (h3 : H W.ll = some (.lst c)) : ∀ x o, H x = some o → (∀ xs, o ≠ .lst xs) → upd3 H W td od ld x = some o := fun x o e n => by
  unfold upd3
  rw [upd_ne (ne_of e h3 (n _)), upd_ne (ne_of e h2 (n _)), upd_ne (ne_of e h1 (n _))]
  exact e
theorem lead_map (acc : List (RowT Str)) (n : Str) : ((look acc n).bind fun x => x.2.map V.str) = (leadOf acc n).map V.str := by
  unfold leadOf
  cases look acc n with
  | none => rfl
  | some x => rfl
/-- what the program asks of the class Drive -/
structure DriveT (K : PySem.W.Frag) (mg : Str → Option Value) (C : Addr) : Prop where
  cl : Cls K C
  nS : NoAttr K C "_sections"
  nP : NoAttr K C "_paces"
  nT : NoAttr K C "_ticks"
  nO : NoAttr K C "_orders"
  nL : NoAttr K C "_leaders"
  mgC : mg "Drive" = some (.ref C)
/-- a method of a class, as callers want it -/
structure Fm (K : PySem.W.Frag) (C : Addr) (x qual : Str) (st : Stmt) (ps : List Str) (f : Addr) (fd : FuncData) : Prop where
  fn : Fun K x qual st f fd
  at_ : Meth K C x f
  bd : Binds K fd ps []
section
variable {P : Program} {w : World} {K : PySem.W.Frag} {mg : Str → Option Value} {base : Heap}
def spDriveAll (K : PySem.W.Frag) (T : List (Addr × Str)) : Sp := fun vs H Q _ => ∃ (sc sd pd : Addr) (secs : List Sec) (cars : List Car), vs = [.ref sc, .ref sd, .ref pd] ∧ SecsAt H sc secs ∧ H sd = some (.dK (startK cars)) ∧ H pd = some (.dK (paceK cars)) ∧ SecsOk secs ∧ CarsOk cars ∧ Tabs T H ∧
  ∀ H' t W, DL H H' secs cars secs.length W → H' t = some (.tup [.ref W.lt, .ref W.lo, .ref W.ll]) → New H t → Tabs T H' → Q (.ref t) H'
def nDriveAll : List Str := ["sections", "starts", "paces", "ticks", "orders", "leaders", "kind", "length", "order", "left", "led", "car"]
theorem scDriveAll : FnScope nDriveAll ["sections", "starts", "paces"] (defScope sDriveAll) := ⟨rfl, rfl, rfl, by decide +kernel, rfl, by decide +kernel, by decide +kernel⟩
theorem atI_lst {α : Type} {xs : List α} {m : Nat} {v : α} (hl : xs.length = m + 1) (h : xs[m]? = some v) : atI xs (-1) = some v := by
  obtain ⟨r, x, e, hr⟩ := snoc_of hl
  subst e
  rw [List.getElem?_append_right (by omega), hr] at h
  simp at h
  subst h
  exact atI_last _ _
theorem ok_driveAll {f fO fF c Pt : Addr} {fd dO dF : FuncData} {T : List (Addr × Str)} (F : Fun K "drive_all" "drive_all" sDriveAll f fd) (M : Mg mg)
    (BO : FbC K mg "_in_order" sInOrder ["names", "ticks"] fO dO c) (BF : Fb K mg "_follow" sFollow ["order", "free"] fF dF)
    (GO : FnOk P w K mg base CX0 3 fO dO ["names", "ticks"] (spInOrder K T)) (GF : FnOk P w K mg base CX0 1 fF dF ["order", "free"] (spFollow K)) :
    FnOk P w K mg base CX0 4 f fd ["sections", "starts", "paces"] (spDriveAll K T) := by
  refine F.ok scDriveAll (fun vs H Q E h => ?_) (fun cdv A outer s H vs Q E hr h => ?_)
  · obtain ⟨sc, sd, pd, secs, cars, rfl, _⟩ := h
    rfl
  · obtain ⟨sc, sd, pd, secs, cars, rfl, hS, hsd, hpd, SO, CO, hT, k⟩ := h
    have nd := scDriveAll.nd
    have hu := hu_of hr
    refine ⟨_, pss_cons (ps_set (i := 3) nd rfl (.inr rfl) (pe_lst (pa_cons (pv 1) pa_nil)))
      (pss_cons (ps_set (i := 4) nd rfl (.inl rfl) (pe_lst (pa_cons (pe_call GO hr (by rfl) BO.at_ BO.fn.kp BO.bd .nil pass0 (pa_cons (pe_callTy (call_list_dK rfl) (by rfl) M.list (by decide +kernel) (pa_cons (pv 1) pa_nil)) (pa_cons (pv 1) pa_nil))) pa_nil)))
      (pss_cons (ps_set (i := 5) nd rfl (.inl rfl) (pe_lst pa_nil))
      (pss_cons (ps_for PassesOwn.never rfl (pi_tup (pv 0)) (pg_tup rfl (pgs_cons (pg_name (i := 6) nd rfl (.inl rfl)) (pgs_cons (pg_name (i := 7) nd rfl (.inr rfl)) pgs_nil)))
        (pss_cons (ps_set (i := 8) nd rfl (.inl rfl) (pe_ix ix_list (pv 4) (pe_un un_neg pe_int) (fun _ _ => rfl)))
        (pss_cons (ps_setDc (i := 9) (own := [("car", 11)]) (g := gName 11) (tt := tYes) (tk := tVar 11) (tv := tOp (rI0 fun i j => .int (i + j)) (tDGet (tOp (rIxL K) (tVar 3) (tUn (rU fun i => .int (-i)) (tC (.int 1)))) (tVar 11)) (tOp (rI CMul fun i j => .int (i * j)) (tDGet (tVar 2) (tVar 11)) (tVar 7))) (by rfl) nd rfl rfl (sw_trueD rfl rfl rfl (by decide +kernel)) (pi_list (pv 8)) (blkOk_by (N := nDriveAll) (sc := defScope sDriveAll) (by decide +kernel))
            (fun _ _ _ _ _ => pg_name (i := 11) nd rfl (Or.inl rfl)) (fun _ _ _ _ _ => pts_nil) (fun _ _ _ _ _ => pv 11)
            (fun _ _ _ _ _ => pe_op op_add (pe_dget hu (pe_ix (r := rIxL K) ix_list (pv 3) (pe_un un_neg pe_int) (fun _ _ => rfl)) (pv 11) (fun _ _ => rfl)) (pe_op op_mul (pe_dget hu (pv 2) (pv 11) (fun _ _ => rfl)) (pv 7))))
        (pss_cons (ps_set (i := 10) nd rfl (.inl rfl) pe_dnewK)
        (pss_cons (ps_if (pt_cmpR op_eq (pv 6) pe_str (nomark _))
            (pss_one (ps_set (i := 8) nd rfl (.inl rfl) (pe_call GO hr (by rfl) BO.at_ BO.fn.kp BO.bd .nil pass0 (pa_cons (pv 8) (pa_cons (pv 9) pa_nil)))))
            (pss_one (ps_asg (pe_call GF (hr.mono (by decide)) (by rfl) BF.at_ BF.fn.kp BF.bd .nil pass0 (pa_cons (pv 8) (pa_cons (pv 9) pa_nil))) (pg_tup rfl (pgs_cons (pg_name (i := 9) nd rfl (.inl rfl)) (pgs_cons (pg_name (i := 10) nd rfl (.inl rfl)) pgs_nil))))))
        (pss_cons (ps_expr (pe_bm PySem.F.plainAttrs_list PySem.F.slot_list_append PySem.F.type_list_append mt_append (pv 3) (pa_cons (pv 9) pa_nil)))
        (pss_cons (ps_expr (pe_bm PySem.F.plainAttrs_list PySem.F.slot_list_append PySem.F.type_list_append mt_append (pv 4) (pa_cons (pv 8) pa_nil)))
        (pss_one (ps_expr (pe_bm PySem.F.plainAttrs_list PySem.F.slot_list_append PySem.F.type_list_append mt_append (pv 5) (pa_cons (pv 10) pa_nil)))))))))))
      (pss_one (ps_ret (pe_tup (pa_cons (pv 3) (pa_cons (pv 4) (pa_cons (pv 5) pa_nil))))))))), ?_⟩
    have ndn : (names cars).Nodup := CO.nd
    refine ⟨_, rfl, by show 1 ≤ sizeLine; decide, fun lt hlt => ?_⟩
    have s1 : Same H (upd H lt (.lst [.ref sd])) := fun b o e => by rw [upd_ne (ne_of_none e hlt)]; exact e
    have hlt1 : (upd H lt (.lst [.ref sd])) lt = some (.lst [.ref sd]) := upd_same
    show tSeq _ _ _ _ (upd H lt (.lst [.ref sd]))
    generalize upd H lt (.lst [.ref sd]) = H1 at s1 hlt1 ⊢
    refine ⟨_, rfl, sd, _, rfl, s1 _ _ hsd, fun l hl => ?_⟩
    rw [startK_keys]
    have s2 : Same H1 (upd H1 l (.lst ((names cars).map V.str))) := fun b o e => by rw [upd_ne (ne_of_none e hl)]; exact e
    have hl2 : (upd H1 l (.lst ((names cars).map V.str))) l = some (.lst ((names cars).map V.str)) := upd_same
    have T2 : Tabs T (upd H1 l (.lst ((names cars).map V.str))) := hT.ext (s1.trans s2)
    refine ⟨_, rfl, l, sd, names cars, _, startOf cars, rfl, SqL.of hl2, s2 _ _ (s1 _ _ hsd), fun n hn => startK_get ndn hn, T2, fun H3 Do e3 T3 n3 hDo => ?_⟩
    have hlt3 := ExtN.lst e3 (s2 _ _ hlt1)
    have x3 : ExtN H H3 := (ExtN.same (s1.trans s2)).trans e3
    have nDot : Do ≠ lt := fun z => n3 lt _ (s2 _ _ hlt1) (fun _ y => nomatch y) z.symm
    refine ⟨by show 1 ≤ sizeLine; decide, fun lo hlo => ?_⟩
    have nto : lt ≠ lo := ne_of_none hlt3 hlo
    have nDo : Do ≠ lo := ne_of_none hDo hlo
    have s4 : Same H3 (upd H3 lo (.lst [.ref Do])) := fun b o e => by rw [upd_ne (ne_of_none e hlo)]; exact e
    have hlo4 : (upd H3 lo (.lst [.ref Do])) lo = some (.lst [.ref Do]) := upd_same
    show tSeq _ _ _ _ (upd H3 lo (.lst [.ref Do]))
    generalize upd H3 lo (.lst [.ref Do]) = H4 at s4 hlo4 ⊢
    have x4 : ExtN H H4 := x3.trans (ExtN.same s4)
    refine ⟨Nat.zero_le _, fun ll hll => ?_⟩
    have s5 : Same H4 (upd H4 ll (.lst [])) := fun b o e => by rw [upd_ne (ne_of_none e hll)]; exact e
    have hll5 : (upd H4 ll (.lst [])) ll = some (.lst []) := upd_same
    have hlt4 := s4 _ _ hlt3
    have ntl : lt ≠ ll := ne_of_none hlt4 hll
    have nol : lo ≠ ll := ne_of_none hlo4 hll
    have nDol : Do ≠ ll := ne_of_none (s4 _ _ hDo) hll
    show tSeq _ _ _ _ (upd H4 ll (.lst []))
    generalize upd H4 ll (.lst []) = H5 at s5 hll5 ⊢
    have x5 : ExtN H H5 := x4.trans (ExtN.same s5)
    have D0 : DL H H5 secs cars 0 ⟨sc, sc, pd, lt, lo, ll, [sd], [Do], []⟩ := by
      refine { ext := x5, lt := s5 _ _ hlt4, ltl := rfl, lo := s5 _ _ hlo4, lol := rfl, ll := hll5, lll := rfl, tk := ?_, od := ?_, ld := ?_, newt := New.of hlt, newo := New.ext x3 (New.of hlo), newl := New.ext x4 (New.of hll), nto := nto, ntl := ntl, nol := nol, odn := ?_ }
      · intro k d h
        have : k = 0 ∧ sd = d := by
          cases k with
          | zero => exact ⟨rfl, by simpa using h⟩
          | succ k => simp at h
        obtain ⟨rfl, rfl⟩ := this
        exact ⟨_, ExtN.dK x5 hsd, fun n hn => startK_get ndn hn⟩
      · intro k d h
        have : k = 0 ∧ Do = d := by
          cases k with
          | zero => exact ⟨rfl, by simpa using h⟩
          | succ k => simp at h
        obtain ⟨rfl, rfl⟩ := this
        exact s5 _ _ (s4 _ _ hDo)
      · intro k d h
        simp at h
      · intro d hd
        rw [List.mem_singleton.mp hd]
        exact ⟨nDot, nDo, nDol⟩
    have T5 : Tabs T H5 := T3.ext (s4.trans s5)
    obtain ⟨us, u1, u2, u3⟩ := hS
    have hus : (us.map V.ref).length = secs.length := by rw [List.length_map, u2]
    refine ⟨_, rfl, sc, rfl, ⟨_, SqT.of (ExtN.tup x5 u1)⟩, for_it walk_tup
      (fun i σ H6 => ∃ v6 v7 v8 v9 v10 W, σ = [some (.ref sc), some (.ref sd), some (.ref pd), some (.ref W.lt), some (.ref W.lo), some (.ref W.ll), v6, v7, v8, v9, v10, none] ∧ DL H H6 secs cars i W ∧ Tabs T H6)
      ⟨none, none, none, none, none, _, rfl, D0, T5⟩ (fun i σ H6 _ ⟨_, _, _, _, _, _, _, D6, _⟩ => SqT.of (ExtN.tup D6.ext u1)) ?_ ?_⟩
    · clear D0 T5 x5 x4 x3 s5 s4 hll5 hlo4 hlt4 hlt3 s1 s2 hlt1 hl2 T2 T3 n3 hDo e3
      rintro i y σ H6z H6 hi ⟨v6, v7, v8, v9, v10, W, rfl, D, hT6⟩ ⟨e, hy⟩
      subst e
      obtain ⟨t, ht, rfl⟩ : ∃ t, us[i]? = some t ∧ y = V.ref t := by
        rw [List.getElem?_map] at hy
        obtain ⟨t, z1, z2⟩ := Option.map_eq_some_iff.mp hy
        exact ⟨t, z1, z2.symm⟩
      have hml : i < secs.length := by rw [hus] at hi; exact hi
      have hs : secs[i]? = some secs[i] := List.getElem?_eq_getElem hml
      have hct := ExtN.tup D.ext (u3 i t _ ht hs)
      have c0 := SO.len _ (List.getElem_mem hml)
      have hfew := SO.few
      refine ⟨t, _, rfl, SqT.of hct, rfl, _, _, rfl, _, _, rfl, rfl, ?_⟩
      generalize secs[i] = sn at hs hct c0 ⊢
      have h99 := c0.2
      have hpd6 := ExtN.dK D.ext hpd
      obtain ⟨td, htd⟩ : ∃ td, W.tds[i]? = some td := ⟨_, List.getElem?_eq_getElem (by rw [D.ltl]; omega)⟩
      obtain ⟨od, hod⟩ : ∃ od, W.ods[i]? = some od := ⟨_, List.getElem?_eq_getElem (by rw [D.lol]; omega)⟩
      obtain ⟨kt, ht1, ht2⟩ := D.tk i td htd
      have ho1 := D.od i od hod
      have hperm := plcC_perm secs cars i
      have eN : plcC secs cars (i + 1) = stepP (paceOf cars) (plcC secs cars i) sn := plc_succ (paceOf cars) (pl0 cars) secs hs
      have eL : ∀ n, ldrC secs cars i n = leadP (paceOf cars) (plcC secs cars i) sn n := fun n => by
        show ldr (paceOf cars) (pl0 cars) secs i n = _
        unfold ldr
        rw [hs]
      generalize hpl : plcC secs cars i = pl at *
      have hmem : ∀ n ∈ pl.ord, n ∈ names cars := fun n h => hperm.mem_iff.mp h
      have hlen10 : pl.ord.length ≤ 10 := by
        rw [hperm.length_eq]
        unfold names
        rw [List.length_map]
        exact CO.few
      have hndo : pl.ord.Nodup := hperm.nodup_iff.mpr ndn
      have pcb : ∀ n ∈ names cars, 1 ≤ paceOf cars n ∧ paceOf cars n ≤ 60 := fun n h => by
        obtain ⟨c, hc, rfl⟩ := List.mem_map.mp h
        rw [paceOf_car ndn hc]
        exact ⟨(CO.all c hc).p0, (CO.all c hc).p1⟩
      refine ⟨_, rfl, _, rfl, W.lo, _, _, .ref od, rfl, rfl, SqL.of D.lo, atI_lst (by rw [List.length_map, D.lol]) (by rw [List.getElem?_map, hod]; rfl), ?_⟩
      refine ⟨_, rfl, od, rfl, ⟨_, SqL.of ho1⟩, fun Dd hDd => ?_⟩
      refine dc_it walk_list (fun i H1 => Same H6 H1 ∧ ∃ kvs : List (Key × V), H1 Dd = some (.dK kvs) ∧ kvs.length ≤ i ∧ ∀ n ∈ pl.ord.take i, valV kvs (Sum.inr n : Key) = some (.int (freeP (paceOf cars) pl sn.2 n)))
        ⟨fun b o e => by rw [upd_ne (ne_of_none e hDd)]; exact e, [], upd_same, Nat.le_refl _, fun n hn => by simp at hn⟩ (fun i H1 _ ⟨k1, _⟩ => SqL.of (k1 _ _ ho1)) ?_ ?_
      · rintro j y H1 H2 hj ⟨k1, kvs, hD1, lk, hk⟩ ⟨e, hy⟩
        subst e
        obtain ⟨n, hn, rfl⟩ : ∃ n, pl.ord[j]? = some n ∧ y = V.str n := by
          rw [List.getElem?_map] at hy
          obtain ⟨t, z1, z2⟩ := Option.map_eq_some_iff.mp hy
          exact ⟨t, z1, z2.symm⟩
        have hnm := hmem n (List.mem_of_getElem? hn)
        have pb := pcb n hnm
        have hio : j < pl.ord.length := (List.getElem?_eq_some_iff.mp hn).1
        refine ⟨rfl, yes_of ?_⟩
        refine ⟨_, rfl, _, rfl, _, rfl, W.lt, _, _, .ref td, rfl, rfl, SqL.of (k1 _ _ D.lt), atI_lst (by rw [List.length_map, D.ltl]) (by rw [List.getElem?_map, htd]; rfl), _, rfl, td, _, rfl, gk (k1 _ _ ht1) (ht2 n hnm), _, rfl, _, rfl, pd, _, rfl, gk (k1 _ _ hpd6) (paceK_get ndn hnm), _, rfl, _, _, rfl, rfl, .inl ⟨by omega, by omega⟩, _, _, rfl, rfl, ?_⟩
        refine ⟨kvs, Sum.inr n, rfl, hD1, small1000 (by omega), fun b o e => by rw [upd_ne (ne_of_none e hDd)]; exact k1 _ _ e, _, upd_same, Nat.le_trans (length_putK _ _ _) (by omega), fun a ha => ?_⟩
        rw [tk1 hn] at ha
        rw [valV_putS]
        by_cases ean : a = n
        · rw [if_pos ean, ean]
          rfl
        · rw [if_neg ean]
          rcases List.mem_append.mp ha with ha | ha
          · exact hk a ha
          · exact absurd (List.mem_singleton.mp ha) ean
      · rintro H1 ⟨k1, kvs, hD1, lk, hk⟩
        have e9 : pl.ord.take (pl.ord.map V.str).length = pl.ord := by rw [List.length_map, List.take_length]
        rw [e9] at hk
        intro G hG
        have sG : Same H6 (upd H1 G (.dK [])) := fun b o e => by rw [upd_ne (ne_of_none (k1 _ _ e) hG)]; exact k1 _ _ e
        have nDG : Dd ≠ G := ne_of_none hD1 hG
        have hD2 : (upd H1 G (.dK [])) Dd = some (.dK kvs) := by rw [upd_ne nDG]; exact hD1
        have TG : Tabs T (upd H1 G (.dK [])) := hT6.ext sG
        refine ⟨_, rfl, rfl, _, rfl, ?_⟩
        have ek : decide (V.str (kindS sn.1) = V.str "wide") = sn.1 := by cases sn.1 <;> decide +kernel
        rw [ek]
        cases hw : sn.1 with
        | true =>
          refine iteT ?_
          refine ⟨_, rfl, _, rfl, od, Dd, pl.ord, kvs, freeP (paceOf cars) pl sn.2, rfl, SqL.of (sG _ _ ho1), hD2, hk, TG, fun H5 Dn e5 T5 n5 hDn => ?_⟩
          have D5 := (D.step (ExtN.same sG)).step e5
          have estep : plcC secs cars (i + 1) = ⟨sortBy (freeP (paceOf cars) pl sn.2) pl.ord, freeP (paceOf cars) pl sn.2⟩ := by
            rw [eN]
            unfold stepP
            rw [hw]
            rfl
          have hD5 := ExtN.dK e5 hD2
          have hG5 : H5 G = some (.dK []) := ExtN.dK e5 upd_same
          have onL : ∀ b xs, H6 b = some (.lst xs) → b ≠ Dn := fun b xs e => n5 b _ (sG _ _ e) (fun _ z => nomatch z)
          have z1 : (W.tds.map V.ref).length < sizeLine := by rw [List.length_map, D.ltl]; exact small1000 (by omega)
          have z2 : (W.ods.map V.ref).length < sizeLine := by rw [List.length_map, D.lol]; exact small1000 (by omega)
          have z3 : (W.lds.map V.ref).length < sizeLine := by rw [List.length_map, D.lll]; exact small1000 (by omega)
          have l2 : ∀ o, (upd H5 W.lt (.lst o)) W.lo = some (.lst (W.ods.map V.ref)) := fun o => by rw [upd_ne D5.nto.symm]; exact D5.lo
          have l3 : ∀ o o2, (upd (upd H5 W.lt (.lst o)) W.lo (.lst o2)) W.ll = some (.lst (W.lds.map V.ref)) := fun o o2 => by rw [upd_ne D5.nol.symm, upd_ne D5.ntl.symm]; exact D5.ll
          refine ⟨_, rfl, .inl ⟨rfl, _, SqL.of D5.lt⟩, _, rfl, W.lt, _, _, rfl, rfl, D5.lt, z1, ?_⟩
          refine ⟨_, rfl, .inl ⟨rfl, _, SqL.of (l2 _)⟩, _, rfl, W.lo, _, _, rfl, rfl, l2 _, z2, ?_⟩
          refine ⟨_, rfl, .inl ⟨rfl, _, SqL.of (l3 _ _)⟩, _, rfl, W.ll, _, _, rfl, rfl, l3 _ _, z3, ?_⟩
          refine ⟨_, _, _, _, _, W.more Dd Dn G, rfl, D5.push (td := Dd) (od := Dn) (ld := G) hD5 (fun n hn => ?_) (by rw [estep]; exact hDn) ⟨(onL _ _ D.lt).symm, (onL _ _ D.lo).symm, (onL _ _ D.ll).symm⟩ hG5 (fun n => ?_), Tabs.keepL T5 (upd3_keep D5.lt D5.lo D5.ll)⟩
          · rw [estep]
            exact hk n (hperm.mem_iff.mpr hn)
          · rw [eL n]
            unfold leadP
            rw [hw]
            rfl
        | false =>
          refine iteF ?_
          refine ⟨_, rfl, _, rfl, od, Dd, pl.ord, kvs, freeP (paceOf cars) pl sn.2, rfl, SqL.of (sG _ _ ho1), hD2, hk, hndo, by omega, fun H5 t L G2 kL kG s5 nL nG nLG ht hL hG2 tL tG => ?_⟩
          have D5 := D.step (ExtN.same (sG.trans s5))
          have estep : plcC secs cars (i + 1) = ⟨pl.ord, tickOf (foll (freeP (paceOf cars) pl sn.2) pl.ord)⟩ := by
            rw [eN]
            unfold stepP
            rw [hw]
            rfl
          have ho5 := s5 _ _ (sG _ _ ho1)
          have q := D.odn od (List.mem_of_getElem? hod)
          refine ⟨t, _, rfl, SqT.of ht, rfl, _, _, rfl, _, _, rfl, rfl, ?_⟩
          have z1 : (W.tds.map V.ref).length < sizeLine := by rw [List.length_map, D.ltl]; exact small1000 (by omega)
          have z2 : (W.ods.map V.ref).length < sizeLine := by rw [List.length_map, D.lol]; exact small1000 (by omega)
          have z3 : (W.lds.map V.ref).length < sizeLine := by rw [List.length_map, D.lll]; exact small1000 (by omega)
          have l2 : ∀ o, (upd H5 W.lt (.lst o)) W.lo = some (.lst (W.ods.map V.ref)) := fun o => by rw [upd_ne D5.nto.symm]; exact D5.lo
          have l3 : ∀ o o2, (upd (upd H5 W.lt (.lst o)) W.lo (.lst o2)) W.ll = some (.lst (W.lds.map V.ref)) := fun o o2 => by rw [upd_ne D5.nol.symm, upd_ne D5.ntl.symm]; exact D5.ll
          refine ⟨_, rfl, .inl ⟨rfl, _, SqL.of D5.lt⟩, _, rfl, W.lt, _, _, rfl, rfl, D5.lt, z1, ?_⟩
          refine ⟨_, rfl, .inl ⟨rfl, _, SqL.of (l2 _)⟩, _, rfl, W.lo, _, _, rfl, rfl, l2 _, z2, ?_⟩
          refine ⟨_, rfl, .inl ⟨rfl, _, SqL.of (l3 _ _)⟩, _, rfl, W.ll, _, _, rfl, rfl, l3 _ _, z3, ?_⟩
          have T5 : Tabs T H5 := TG.ext s5
          refine ⟨_, _, _, _, _, W.more L od G2, rfl, D5.push (td := L) (od := od) (ld := G2) hL (fun n hn => ?_) (by rw [estep]; exact ho5) q hG2 (fun n => ?_), Tabs.keepL T5 (upd3_keep D5.lt D5.lo D5.ll)⟩
          · rw [estep, tL n]
            obtain ⟨x, hx⟩ := look_some (acc := foll (freeP (paceOf cars) pl sn.2) pl.ord) (n := n) (by rw [foll_names]; exact hperm.mem_iff.mpr hn)
            show _ = some (V.int (tickOf (foll (freeP (paceOf cars) pl sn.2) pl.ord) n))
            unfold tickOf
            rw [hx]
            rfl
          · rw [tG n, lead_map, eL n]
            unfold leadP
            rw [hw]
            rfl
    · rintro σ H6 ⟨v6, v7, v8, v9, v10, W, rfl, D, hT6⟩
      rw [hus] at D
      refine ⟨_, rfl, _, rfl, _, rfl, by show 3 ≤ sizeLine; decide, fun t ht => ?_⟩
      have s7 : Same H6 (upd H6 t (.tup [.ref W.lt, .ref W.lo, .ref W.ll])) := fun b o e => by rw [upd_ne (ne_of_none e ht)]; exact e
      exact k _ t W (D.step (ExtN.same s7)) upd_same (New.ext D.ext (New.of ht)) (hT6.ext s7)
end
end Sl

set_option Elab.async false
set_option linter.all false
set_option maxRecDepth 100000
set_option maxHeartbeats 1000000
namespace Sl
open PySem PySem.Spec L2 OwnR LamX
theorem Tabs.keepP {T : List (Addr × Str)} {H H' : Hp} {p C d : Addr} {fs : List (Str × V)} (t : Tabs T H) (hp : H p = some (.ins C d fs)) (e : ∀ b o, H b = some o → b ≠ p → H' b = some o) : Tabs T H' := fun q hq => by
  obtain ⟨ps, h1, h2, h3⟩ := t q hq
  refine ⟨ps, e _ _ h1 (ne_of h1 hp (by intro z; cases z)), h2, fun pos cv hc => ?_⟩
  obtain ⟨c, e1, e2⟩ := h3 pos cv hc
  exact ⟨c, e1, e _ _ e2 (ne_of e2 hp (by intro z; unfold CodeO at z; cases z))⟩
theorem valV_names_none {g : Car → V} {cars : List Car} {n : Str} (h : n ∉ names cars) : valV (cars.map fun c => ((Sum.inr c.name : Key), g c)) (Sum.inr n : Key) = none := by
  induction cars with
  | nil => rfl
  | cons a l ih =>
    unfold names at h
    rw [List.map_cons, List.mem_cons] at h
    have hne : ¬ (Sum.inr a.name : Key) = Sum.inr n := fun z => h (.inl (Sum.inr.inj z).symm)
    rw [List.map_cons, valV_neg hne]
    exact ih fun z => h (.inr z)
theorem take_new {cars : List Car} (nd : (names cars).Nodup) {i : Nat} {c : Car} (h : cars[i]? = some c) : c.name ∉ names (cars.take i) := by
  intro hm
  obtain ⟨j, hj⟩ := List.mem_iff_getElem?.mp hm
  unfold names at hj nd
  rw [List.getElem?_map] at hj
  obtain ⟨c', hc', en⟩ := Option.map_eq_some_iff.mp hj
  have hj2 : j < i := by
    have := (List.getElem?_eq_some_iff.mp hc').1
    rw [List.length_take] at this
    omega
  rw [List.getElem?_take_of_lt hj2] at hc'
  have a1 : (cars.map (·.name))[j]? = some c.name := by rw [List.getElem?_map, hc']; exact congrArg some en
  have a2 : (cars.map (·.name))[i]? = some c.name := by rw [List.getElem?_map, h]; rfl
  have := nd_ix nd a1 a2
  omega
theorem put_car {g : Car → V} {cars : List Car} (nd : (names cars).Nodup) {i : Nat} {c : Car} (h : cars[i]? = some c) :
    putK ((cars.take i).map fun c => ((Sum.inr c.name : Key), g c)) (Sum.inr c.name : Key) (g c) = (cars.take (i + 1)).map fun c => ((Sum.inr c.name : Key), g c) := by
  rw [putK_new _ (valV_names_none (take_new nd h)), tk1 h, List.map_append]
  rfl
section
variable {P : Program} {w : World} {K : PySem.W.Frag} {mg : Str → Option Value} {base : Heap}
def spDInit (CR C : Addr) (T : List (Addr × Str)) : Sp := fun vs H Q _ => ∃ (H0 : Hp) (p dx r a : Addr) (secs : List Sec) (cars : List Car), vs = [.ref p, .ref r, .ref a] ∧ H p = some (.ins C dx []) ∧ Same H0 H ∧ H0 p = none ∧ RoadAt CR H0 r secs ∧ CarsAt H0 a cars ∧ SecsOk secs ∧ CarsOk cars ∧ Tabs T H0 ∧
  ∀ H' W, DP C H0 H' p secs cars secs.length W → Tabs T H' → Q .non H'
def nDInit : List Str := ["self", "road", "cars", "starts", "name", "start", "pace"]
theorem scDInit : FnScope nDInit ["self", "road", "cars"] (defScope sDInit) := ⟨rfl, rfl, rfl, by decide +kernel, rfl, by decide +kernel, by decide +kernel⟩
theorem ok_dInit {f fK fA fP CR C lp kp pp : Addr} {fd dK dA dP : FuncData} {T : List (Addr × Str)} (F : Fm K C "__init__" "Drive.__init__" sDInit ["self", "road", "cars"] f fd) (M : Mg mg) (R : DriveT K mg C) (RR : RoadT K w mg CR lp kp)
    (BK : Fb K mg "check_cars" sCheckCars ["cars"] fK dK) (BA : Fb K mg "drive_all" sDriveAll ["sections", "starts", "paces"] fA dA)
    (PO : PropOf K CR "sections" pp fP) (bP : Binds K dP ["self"] [])
    (GK : FnOk P w K mg base CX0 3 fK dK ["cars"] spCheckCars) (GA : FnOk P w K mg base CX0 4 fA dA ["sections", "starts", "paces"] (spDriveAll K T))
    (GP : FnOk P w K mg base CX0 1 fP dP ["self"] (getSp CR "_sections")) :
    FnOk P w K mg base CX0 5 f fd ["self", "road", "cars"] (spDInit CR C T) := by
  refine F.fn.ok scDInit (fun vs H Q E h => ?_) (fun cdv A outer s H vs Q E hr h => ?_)
  · obtain ⟨H0, p, dx, r, a, secs, cars, rfl, _⟩ := h
    rfl
  · obtain ⟨H0, p, dx, r, a, secs, cars, rfl, hp, s0, p0, hR, hC, SO, CO, hT, k⟩ := h
    have nd := scDInit.nd
    have hu := hu_of hr
    have hr2 : Room 2 (A.deeper (PyProof.Rows.envOfC "Drive.__init__" (defScope sDInit) s.heap.objs.size f cdv)) := hr.mono (by decide)
    have hr3 : Room 3 (A.deeper (PyProof.Rows.envOfC "Drive.__init__" (defScope sDInit) s.heap.objs.size f cdv)) := hr.mono (by decide)
    refine ⟨_, pss_cons (ps_expr (pe_call GK hr3 (by rfl) BK.at_ BK.fn.kp BK.bd .nil pass0 (pa_cons (pv 2) pa_nil)))
      (pss_cons (ps_fld (pv 0) (pe_prop (pv 1) RR.cl PO GP hr2 bP .nil pass0 rfl) rfl)
      (pss_cons (ps_fld (pv 0) (pe_dc (own := [("name", 4), ("start", 5), ("pace", 6)]) (g := gTup K 3 (gCons (gName 4) (gCons (gName 5) (gCons (gName 6) gNil)))) (tt := tYes) (by rfl) nd (pi_tup (pv 2)) (blkOk_by (N := nDInit) (sc := defScope sDInit) (by decide +kernel))
          (fun _ _ _ _ _ => pg_tup rfl (pgs_cons (pg_name (i := 4) nd rfl (Or.inl rfl)) (pgs_cons (pg_name (i := 5) nd rfl (Or.inl rfl)) (pgs_cons (pg_name (i := 6) nd rfl (Or.inl rfl)) pgs_nil)))) (fun _ _ _ _ _ => pts_nil) (fun _ _ _ _ _ => pv 4) (fun _ _ _ _ _ => pv 6)) rfl)
      (pss_cons (ps_setDc (i := 3) (own := [("name", 4), ("start", 5), ("pace", 6)]) (g := gTup K 3 (gCons (gName 4) (gCons (gName 5) (gCons (gName 6) gNil)))) (tt := tYes) (tk := tVar 4) (tv := tVar 5) (by rfl) nd rfl rfl (sw_trueD rfl rfl rfl (by decide +kernel)) (pi_tup (pv 2)) (blkOk_by (N := nDInit) (sc := defScope sDInit) (by decide +kernel))
          (fun _ _ _ _ _ => pg_tup rfl (pgs_cons (pg_name (i := 4) nd rfl (Or.inl rfl)) (pgs_cons (pg_name (i := 5) nd rfl (Or.inl rfl)) (pgs_cons (pg_name (i := 6) nd rfl (Or.inl rfl)) pgs_nil)))) (fun _ _ _ _ _ => pts_nil) (fun _ _ _ _ _ => pv 4) (fun _ _ _ _ _ => pv 5))
      (pss_one (ps_asg (pe_call GA hr (by rfl) BA.at_ BA.fn.kp BA.bd .nil pass0 (pa_cons (pe_prop (pv 1) RR.cl PO GP hr2 bP .nil pass0 rfl) (pa_cons (pv 3) (pa_cons (pe_fld (pv 0) rfl) pa_nil)))) (pg_tup rfl (pgs_cons (pg_fld (pv 0)) (pgs_cons (pg_fld (pv 0)) (pgs_cons (pg_fld (pv 0)) pgs_nil))))))))), ?_⟩
    have ndn : (names cars).Nodup := CO.nd
    obtain ⟨ts, ha, hlen, hcar⟩ := hC
    obtain ⟨dr, tr, ur, hr1, hsc, _⟩ := hR
    refine ⟨_, rfl, a, cars, rfl, ⟨ts, s0 _ _ ha, hlen, fun i t c e1 e2 => s0 _ _ (hcar i t c e1 e2)⟩, CO, fun H1 s1 => ?_⟩
    have s01 : Same H0 H1 := s0.trans s1
    have hp1 := s1 _ _ hp
    refine ⟨_, rfl, r, dr, _, rfl, s01 _ _ hr1, r, dr, _, _, rfl, s01 _ _ hr1, rf_sections _ _, _, rfl, p, C, dx, _, rfl, hp1, R.cl, R.nS, (by show 0 < 1000; decide), ?_⟩
    have old2 : ∀ b o, H0 b = some o → upd H1 p (.ins C dx (df1 tr)) b = some o := fun b o e => by rw [upd_ne (ne_of_none e p0)]; exact s01 _ _ e
    have hp2 : upd H1 p (.ins C dx (df1 tr)) p = some (.ins C dx (df1 tr)) := upd_same
    show tSeq _ _ _ _ (upd H1 p (.ins C dx (df1 tr)))
    generalize upd H1 p (.ins C dx (df1 tr)) = H2 at old2 hp2 ⊢
    have htz : (ts.map V.ref).length = cars.length := by rw [List.length_map, hlen]
    have e9 : cars.take (ts.map V.ref).length = cars := by rw [htz, List.take_length]
    refine ⟨_, rfl, a, rfl, ⟨_, SqT.of (old2 _ _ ha)⟩, fun D hD => ?_⟩
    refine dc_it walk_tup (fun i H3 => Same H2 H3 ∧ H3 D = some (.dK ((cars.take i).map fun c => ((Sum.inr c.name : Key), V.int c.pace))))
      ⟨fun b o e => by rw [upd_ne (ne_of_none e hD)]; exact e, upd_same⟩ (fun i H3 _ ⟨k1, _⟩ => SqT.of (k1 _ _ (old2 _ _ ha))) ?_ ?_
    · rintro i y H3 H4 hi ⟨k1, hD1⟩ ⟨e, hy⟩
      subst e
      obtain ⟨t, ht, rfl⟩ : ∃ t, ts[i]? = some t ∧ y = V.ref t := by
        rw [List.getElem?_map] at hy
        obtain ⟨t, z1, z2⟩ := Option.map_eq_some_iff.mp hy
        exact ⟨t, z1, z2.symm⟩
      have hic : i < cars.length := by rw [htz] at hi; exact hi
      have hc : cars[i]? = some cars[i] := List.getElem?_eq_getElem hic
      have hct := k1 _ _ (old2 _ _ (hcar i t _ ht hc))
      refine ⟨t, _, rfl, SqT.of hct, rfl, _, _, rfl, _, _, rfl, _, _, rfl, rfl, rfl, yes_of ?_⟩
      refine ⟨_, rfl, _, rfl, _, Sum.inr cars[i].name, rfl, hD1, by rw [List.length_map, List.length_take]; have := CO.few; exact small1000 (by omega), fun b o e => by rw [upd_ne (ne_of_none e hD)]; exact k1 _ _ e, ?_⟩
      rw [upd_same, put_car (g := fun c => V.int c.pace) ndn hc]
    · rintro H3 ⟨k1, hD1⟩
      rw [e9] at hD1
      have hp3 := k1 _ _ hp2
      refine ⟨_, rfl, p, C, dx, _, rfl, hp3, R.cl, R.nP, (by show 1 < 1000; decide), ?_⟩
      have nDp : D ≠ p := ne_of hD1 hp3 (by intro z; cases z)
      have old4 : ∀ b o, H0 b = some o → upd H3 p (.ins C dx (df2 tr D)) b = some o := fun b o e => by rw [upd_ne (ne_of_none e p0)]; exact k1 _ _ (old2 _ _ e)
      have hp4 : upd H3 p (.ins C dx (df2 tr D)) p = some (.ins C dx (df2 tr D)) := upd_same
      have hD4 : upd H3 p (.ins C dx (df2 tr D)) D = some (.dK (paceK cars)) := by rw [upd_ne nDp]; exact hD1
      show tSeq _ _ _ _ (upd H3 p (.ins C dx (df2 tr D)))
      generalize upd H3 p (.ins C dx (df2 tr D)) = H4 at old4 hp4 hD4 ⊢
      refine ⟨_, rfl, a, rfl, ⟨_, SqT.of (old4 _ _ ha)⟩, fun D2 hD2 => ?_⟩
      refine dc_it walk_tup (fun i H3 => Same H4 H3 ∧ H3 D2 = some (.dK ((cars.take i).map fun c => ((Sum.inr c.name : Key), V.int c.start))))
        ⟨fun b o e => by rw [upd_ne (ne_of_none e hD2)]; exact e, upd_same⟩ (fun i H3 _ ⟨k1, _⟩ => SqT.of (k1 _ _ (old4 _ _ ha))) ?_ ?_
      · rintro i y H3 H5 hi ⟨k1, hD1⟩ ⟨e, hy⟩
        subst e
        obtain ⟨t, ht, rfl⟩ : ∃ t, ts[i]? = some t ∧ y = V.ref t := by
          rw [List.getElem?_map] at hy
          obtain ⟨t, z1, z2⟩ := Option.map_eq_some_iff.mp hy
          exact ⟨t, z1, z2.symm⟩
        have hic : i < cars.length := by rw [htz] at hi; exact hi
        have hc : cars[i]? = some cars[i] := List.getElem?_eq_getElem hic
        have hct := k1 _ _ (old4 _ _ (hcar i t _ ht hc))
        refine ⟨t, _, rfl, SqT.of hct, rfl, _, _, rfl, _, _, rfl, _, _, rfl, rfl, rfl, yes_of ?_⟩
        refine ⟨_, rfl, _, rfl, _, Sum.inr cars[i].name, rfl, hD1, by rw [List.length_map, List.length_take]; have := CO.few; exact small1000 (by omega), fun b o e => by rw [upd_ne (ne_of_none e hD2)]; exact k1 _ _ e, ?_⟩
        rw [upd_same, put_car (g := fun c => V.int c.start) ndn hc]
      · rintro H5 ⟨k5, hD5⟩
        rw [e9] at hD5
        have hp5 := k5 _ _ hp4
        have old5 : ∀ b o, H0 b = some o → H5 b = some o := fun b o e => k5 _ _ (old4 _ _ e)
        have T5 : Tabs T H5 := hT.ext old5
        have hD45 := k5 _ _ hD4
        have hS5 : SecsAt H5 tr secs := by
          obtain ⟨us, u1, u2, u3⟩ := hsc
          exact ⟨us, old5 _ _ u1, u2, fun i t s e1 e2 => old5 _ _ (u3 i t s e1 e2)⟩
        refine ⟨_, rfl, r, dr, _, rfl, old5 _ _ hr1, r, dr, _, _, rfl, old5 _ _ hr1, rf_sections _ _, _, rfl, _, rfl, p, C, dx, _, _, rfl, hp5, R.cl, R.nP, df2_paces _ _, ?_⟩
        refine ⟨tr, D2, D, secs, cars, rfl, hS5, hD5, hD45, SO, CO, T5, fun H6 t W L ht nt T6 => ?_⟩
        have hp6 := ExtN.ins L.ext hp5
        refine ⟨t, _, rfl, SqT.of ht, rfl, ?_⟩
        have i3 : upd H6 p (.ins C dx (df3 tr D W.lt)) p = some (.ins C dx (df3 tr D W.lt)) := upd_same
        have i4 : ∀ o, upd (upd H6 p o) p (.ins C dx (df4 tr D W.lt W.lo)) p = some (.ins C dx (df4 tr D W.lt W.lo)) := fun o => upd_same
        refine ⟨_, _, rfl, ⟨_, rfl, p, C, dx, _, rfl, hp6, R.cl, R.nT, (by show (df2 tr D).length < 1000; exact Nat.lt_of_le_of_lt (putF_len _ _ _) (by show 1 + 1 < 1000; decide)), ?_⟩⟩
        refine ⟨_, _, rfl, ⟨_, rfl, p, C, dx, _, rfl, i3, R.cl, R.nO, Nat.lt_of_le_of_lt (Nat.le_trans (putF_len _ _ _) (Nat.succ_le_succ (putF_len _ _ _))) (by show 1 + 1 + 1 < 1000; decide), ?_⟩⟩
        refine ⟨_, _, rfl, ⟨_, rfl, p, C, dx, _, rfl, i4 _, R.cl, R.nL, Nat.lt_of_le_of_lt (Nat.le_trans (putF_len _ _ _) (Nat.succ_le_succ (Nat.le_trans (putF_len _ _ _) (Nat.succ_le_succ (putF_len _ _ _))))) (by show 1 + 1 + 1 + 1 < 1000; decide), rfl, ?_⟩⟩
        have hpE : upd (upd (upd H6 p (.ins C dx (df3 tr D W.lt))) p (.ins C dx (df4 tr D W.lt W.lo))) p (.ins C dx (df5 tr D W.lt W.lo W.ll)) p = some (.ins C dx (df5 tr D W.lt W.lo W.ll)) := upd_same
        have keep : ∀ b o, H6 b = some o → b ≠ p → upd (upd (upd H6 p (.ins C dx (df3 tr D W.lt))) p (.ins C dx (df4 tr D W.lt W.lo))) p (.ins C dx (df5 tr D W.lt W.lo W.ll)) b = some o := fun b o e n => by
          rw [upd_ne n, upd_ne n, upd_ne n]
          exact e
        show Ends.nx _ _ (upd (upd (upd H6 p (.ins C dx (df3 tr D W.lt))) p (.ins C dx (df4 tr D W.lt W.lo))) p (.ins C dx (df5 tr D W.lt W.lo W.ll)))
        generalize upd (upd (upd H6 p (.ins C dx (df3 tr D W.lt))) p (.ins C dx (df4 tr D W.lt W.lo))) p (.ins C dx (df5 tr D W.lt W.lo W.ll)) = H9 at hpE keep ⊢
        have T9 : Tabs T H9 := Tabs.keepP T6 hp6 keep
        have np : ∀ b o, H6 b = some o → (∀ C d fs, o ≠ .ins C d fs) → H9 b = some o := fun b o e n => keep b o e (ne_of e hp6 (n _ _ _))
        have x05 : ExtN H0 H5 := fun b o e _ => old5 _ _ e
        refine k H9 ⟨dx, tr, D, W.lt, W.lo, W.ll, W.tds, W.ods, W.lds⟩ ?_ T9
        exact { ext := fun b o e n => keep b o (L.ext b o (old5 _ _ e) n) (ne_of_none e p0)
                ins := hpE
                sec := by
                  obtain ⟨us, u1, u2, u3⟩ := hS5
                  exact ⟨us, np _ _ (ExtN.tup L.ext u1) (fun _ _ _ z => nomatch z), u2, fun i t s e1 e2 => np _ _ (ExtN.tup L.ext (u3 i t s e1 e2)) (fun _ _ _ z => nomatch z)⟩
                pac := np _ _ (ExtN.dK L.ext hD45) (fun _ _ _ z => nomatch z)
                lt := np _ _ L.lt (fun _ _ _ z => nomatch z)
                ltl := L.ltl
                lo := np _ _ L.lo (fun _ _ _ z => nomatch z)
                lol := L.lol
                ll := np _ _ L.ll (fun _ _ _ z => nomatch z)
                lll := L.lll
                tk := fun k d h => let ⟨kv, a, b⟩ := L.tk k d h; ⟨kv, np _ _ a (fun _ _ _ z => nomatch z), b⟩
                od := fun k d h => np _ _ (L.od k d h) (fun _ _ _ z => nomatch z)
                ld := fun k d h => let ⟨kv, a, b⟩ := L.ld k d h; ⟨kv, np _ _ a (fun _ _ _ z => nomatch z), b⟩
                newp := New.of p0
                newt := New.ext x05 L.newt
                newo := New.ext x05 L.newo
                newl := New.ext x05 L.newl
                nto := L.nto
                ntl := L.ntl
                nol := L.nol
                odn := L.odn }
end
end Sl

set_option Elab.async false
set_option linter.all false
set_option maxRecDepth 100000
set_option maxHeartbeats 1000000
namespace Sl
open PySem PySem.Spec L2 OwnR LamX
/-- a Drive, all of it driven -/
def DA (C : Addr) (H : Hp) (p : Addr) (secs : List Sec) (cars : List Car) : Prop := ∃ H0 W, DP C H0 H p secs cars secs.length W
theorem DA.ext {C : Addr} {H H' : Hp} {p : Addr} {secs : List Sec} {cars : List Car} (h : DA C H p secs cars) (e : ExtN H H') : DA C H' p secs cars := let ⟨H0, W, D⟩ := h; ⟨H0, W, D.step e⟩
theorem paceK_none {cars : List Car} {n : Str} (h : n ∉ names cars) : valV (paceK cars) (Sum.inr n : Key) = none := valV_names_none (g := fun c => V.int c.pace) h
theorem paceK_some (cars : List Car) (n : Str) : (valV (paceK cars) (Sum.inr n : Key)).isSome = decide (n ∈ names cars) := by
  by_cases h : n ∈ names cars
  · rw [decide_eq_true h]
    induction cars with
    | nil => cases h
    | cons a l ih =>
      by_cases e : a.name = n
      · have : valV (paceK (a :: l)) (Sum.inr n : Key) = some (V.int a.pace) := by rw [← e]; exact valV_pos rfl
        rw [this]
        rfl
      · have hne : ¬ (Sum.inr a.name : Key) = Sum.inr n := fun z => e (Sum.inr.inj z)
        have hm : n ∈ names l := by
          unfold names at h ⊢
          rw [List.map_cons, List.mem_cons] at h
          rcases h with h | h
          · exact absurd h.symm e
          · exact h
        have : valV (paceK (a :: l)) (Sum.inr n : Key) = valV (paceK l) (Sum.inr n : Key) := valV_neg hne
        rw [this]
        exact ih hm
  · rw [decide_eq_false h, paceK_none h]
    rfl
section
variable {P : Program} {w : World} {K : PySem.W.Frag} {mg : Str → Option Value} {base : Heap}
/-! ### name in drive -/
def spHas (C : Addr) : Sp := fun vs H Q _ => ∃ (p : Addr) (secs : List Sec) (cars : List Car) (n : Str), vs = [.ref p, .str n] ∧ DA C H p secs cars ∧ Q (.bl (decide (n ∈ names cars))) H
theorem scHas : FnScope ["self", "x"] ["self", "x"] (defScope sDHas) := ⟨rfl, rfl, rfl, by decide +kernel, rfl, by decide +kernel, by decide +kernel⟩
theorem ok_has {f C : Addr} {fd : FuncData} (F : Fun K "__contains__" "Drive.__contains__" sDHas f fd) (M : Mg mg) (R : DriveT K mg C) : FnOk P w K mg base CX0 1 f fd ["self", "x"] (spHas C) := by
  refine F.ok scHas (fun vs H Q E h => ?_) (fun cdv A outer s H vs Q E hr h => ?_)
  · obtain ⟨p, secs, cars, n, rfl, _⟩ := h
    rfl
  · obtain ⟨p, secs, cars, n, rfl, ⟨H0, W, D⟩, k⟩ := h
    have hu := hu_of hr
    refine ⟨_, pss_one (ps_ret (pe_and (pe_callB call_isi (by rfl) M.isinstance boot_isinstance (pa_cons (pv 1) (pa_cons (pe_bltn (v := .ty "str") (by rfl) M.str boot_tStr rfl) pa_nil))) (pe_one (pe_cmp (pc_din hu (pv 1) (pe_fld (pv 0) rfl)) (by rfl))))), ?_⟩
    refine ⟨_, rfl, _, _, _, _, true, rfl, .ty _, .base (.str n), kit_ty (by decide +kernel), true, rfl, iteT ?_⟩
    refine ⟨_, rfl, _, rfl, p, C, W.dx, _, _, rfl, D.ins, R.cl, R.nP, df5_paces _ _ _ _ _, W.pd, _, rfl, DGet.k (k := (Sum.inr n : Key)) D.pac, ?_⟩
    rw [paceK_some]
    exact k
/-! ### _check_car -/
def spCheckCar (C : Addr) : Sp := fun vs H Q _ => ∃ (p : Addr) (secs : List Sec) (cars : List Car) (n : Str), vs = [.ref p, .str n] ∧ DA C H p secs cars ∧ n ∈ names cars ∧ Q .non H
theorem scCheckCar : FnScope ["self", "name"] ["self", "name"] (defScope sDCheckCar) := ⟨rfl, rfl, rfl, by decide +kernel, rfl, by decide +kernel, by decide +kernel⟩
theorem ok_checkCar {f fH C : Addr} {fd dH : FuncData} (F : Fm K C "_check_car" "Drive._check_car" sDCheckCar ["self", "name"] f fd) (hs : PySem.W.findIn K (.ref C) "__contains__" = some (some (.ref fH))) (hf : PySem.W.isFn K (.ref fH) = true) (bH : Binds K dH ["self", "x"] [])
    (GH : FnOk P w K mg base CX0 1 fH dH ["self", "x"] (spHas C)) : FnOk P w K mg base CX0 2 f fd ["self", "name"] (spCheckCar C) := by
  refine F.fn.ok scCheckCar (fun vs H Q E h => ?_) (fun cdv A outer s H vs Q E hr h => ?_)
  · obtain ⟨p, secs, cars, n, rfl, _⟩ := h
    rfl
  · obtain ⟨p, secs, cars, n, rfl, ⟨H0, W, D⟩, hn, k⟩ := h
    refine ⟨_, pss_one (ps_if (pt_cmpR (op_notInO hs hf (GH.raw bH .nil) hr pass0) (pv 1) (pv 0) (by rfl)) (pss_one ps_never) pss_nil), ?_⟩
    refine ⟨_, rfl, _, rfl, p, W.dx, _, rfl, D.ins, p, secs, cars, n, rfl, ⟨H0, W, D⟩, _, rfl, false, ?_, iteF k⟩
    rw [decide_eq_true hn]
    rfl
/-! ### _check_place, _check_section -/
def spCheckPlace (C : Addr) : Sp := fun vs H Q _ => ∃ (p : Addr) (secs : List Sec) (cars : List Car) (k : Nat), vs = [.ref p, .int (k : Nat)] ∧ DA C H p secs cars ∧ k ≤ secs.length ∧ Q .non H
theorem scCheckPlace : FnScope ["self", "place"] ["self", "place"] (defScope sDCheckPlace) := ⟨rfl, rfl, rfl, by decide +kernel, rfl, by decide +kernel, by decide +kernel⟩
theorem ok_checkPlace {f fB C : Addr} {fd dB : FuncData} (F : Fm K C "_check_place" "Drive._check_place" sDCheckPlace ["self", "place"] f fd) (M : Mg mg) (R : DriveT K mg C) (BB : Fb K mg "is_number" sIsNumber ["value", "least", "most"] fB dB)
    (GB : FnOk P w K mg base CX0 1 fB dB ["value", "least", "most"] spIsNumber) : FnOk P w K mg base CX0 2 f fd ["self", "place"] (spCheckPlace C) := by
  refine F.fn.ok scCheckPlace (fun vs H Q E h => ?_) (fun cdv A outer s H vs Q E hr h => ?_)
  · obtain ⟨p, secs, cars, n, rfl, _⟩ := h
    rfl
  · obtain ⟨p, secs, cars, n, rfl, ⟨H0, W, D⟩, hn, k⟩ := h
    obtain ⟨us, u1, u2, u3⟩ := D.sec
    refine ⟨_, pss_one (ps_if (pt_not (pt_val (pe_call GB hr (by rfl) BB.at_ BB.fn.kp BB.bd .nil pass0 (pa_cons (pv 1) (pa_cons pe_int (pa_cons (pe_callB call_len_seq (by rfl) M.len boot_len (pa_cons (pe_fld (pv 0) rfl) pa_nil)) pa_nil)))))) (pss_one ps_never) pss_nil), ?_⟩
    refine ⟨_, rfl, _, rfl, p, C, W.dx, _, _, rfl, D.ins, R.cl, R.nS, df5_sections _ _ _ _ _, W.sc, _, rfl, .inr (SqT.of u1), (n : Nat), 0, _, rfl, true, ?_, iteF k⟩
    rw [List.length_map, u2, decide_eq_true (by omega : (0 : Int) ≤ (n : Nat)), decide_eq_true (by omega : ((n : Nat) : Int) ≤ (secs.length : Nat))]
    rfl
/-! ### drive[name] -/
def tksL (secs : List Sec) (cars : List Car) (n : Str) : List Int := (List.range (secs.length + 1)).map fun k => (plcC secs cars k).tk n
def spGet (C : Addr) : Sp := fun vs H Q _ => ∃ (p : Addr) (secs : List Sec) (cars : List Car) (n : Str), vs = [.ref p, .str n] ∧ DA C H p secs cars ∧ n ∈ names cars ∧ secs.length ≤ 12 ∧ ∀ H' t, Same H H' → H' t = some (.tup ((tksL secs cars n).map V.int)) → Q (.ref t) H'
def nDGet : List Str := ["self", "at", "ticks"]
theorem scGet : FnScope nDGet ["self", "at"] (defScope sDGet) := ⟨rfl, rfl, rfl, by decide +kernel, rfl, by decide +kernel, by decide +kernel⟩
theorem ok_get {f fC C : Addr} {fd dC : FuncData} (F : Fun K "__getitem__" "Drive.__getitem__" sDGet f fd) (M : Mg mg) (R : DriveT K mg C) (BC : Fm K C "_check_car" "Drive._check_car" sDCheckCar ["self", "name"] fC dC)
    (GC : FnOk P w K mg base CX0 2 fC dC ["self", "name"] (spCheckCar C)) : FnOk P w K mg base CX0 3 f fd ["self", "at"] (spGet C) := by
  refine F.ok scGet (fun vs H Q E h => ?_) (fun cdv A outer s H vs Q E hr h => ?_)
  · obtain ⟨p, secs, cars, n, rfl, _⟩ := h
    rfl
  · obtain ⟨p, secs, cars, n, rfl, ⟨H0, W, D⟩, hn, h12, k⟩ := h
    have nd := scGet.nd
    have hu := hu_of hr
    have noF : ∀ {m : Str}, (¬ m = "_sections") → (¬ m = "_paces") → (¬ m = "_ticks") → (¬ m = "_orders") → (¬ m = "_leaders") → (df5 W.sc W.pd W.lt W.lo W.ll).lookup m = none := fun a b c d e => df5_no _ _ _ _ _ a b c d e
    refine ⟨_, pss_cons (ps_expr (pe_meth (pv 0) R.cl BC.at_ GC hr BC.bd .nil pass0 (pa_cons (pv 1) pa_nil)))
      (pss_one (ps_ret (pe_callTy call_tuple_of (by rfl) M.tuple boot_tTuple (pa_cons (pe_lc (own := [("ticks", 2)]) (g := gName 2) (tt := tYes) (te := tDGet (tVar 2) (tVar 1)) (by rfl) nd (pi_list (pe_fld (pv 0) rfl)) (blkOk_by (N := nDGet) (sc := defScope sDGet) (by decide +kernel))
        (fun _ _ _ _ _ => pg_name (i := 2) nd rfl (Or.inl rfl)) (fun _ _ _ _ _ => pts_nil) (fun _ _ _ _ _ => pe_dget hu (pv 2) (pv 1) (fun _ _ => rfl))) pa_nil)))), ?_⟩
    refine ⟨_, rfl, p, W.dx, _, rfl, D.ins, noF (by decide +kernel) (by decide +kernel) (by decide +kernel) (by decide +kernel) (by decide +kernel), _, rfl, p, secs, cars, n, rfl, ⟨H0, W, D⟩, hn, ?_⟩
    refine ⟨_, rfl, p, C, W.dx, _, _, rfl, D.ins, R.cl, R.nT, df5_ticks _ _ _ _ _, W.lt, rfl, ⟨_, SqL.of D.lt⟩, fun L hL => ?_⟩
    have hltz : (W.tds.map V.ref).length = secs.length + 1 := by rw [List.length_map, D.ltl]
    refine lc_it walk_list (fun i H1 => Same H H1 ∧ H1 L = some (.lst (((List.range i).map fun k => (plcC secs cars k).tk n).map V.int)))
      ⟨fun b o e => by rw [upd_ne (ne_of_none e hL)]; exact e, upd_same⟩ (fun i H1 _ ⟨k1, _⟩ => SqL.of (k1 _ _ D.lt)) ?_ ?_
    · rintro i y H1 H2 hi ⟨k1, hL1⟩ ⟨e, hy⟩
      subst e
      obtain ⟨t, ht, rfl⟩ : ∃ t, W.tds[i]? = some t ∧ y = V.ref t := by
        rw [List.getElem?_map] at hy
        obtain ⟨t, z1, z2⟩ := Option.map_eq_some_iff.mp hy
        exact ⟨t, z1, z2.symm⟩
      obtain ⟨kv, a1, a2⟩ := D.tk i t ht
      refine ⟨rfl, yes_of ?_⟩
      refine ⟨_, rfl, _, rfl, t, _, rfl, gk (k1 _ _ a1) (a2 n hn), _, hL1, ?_, fun b o e => by rw [upd_ne (ne_of_none e hL)]; exact k1 _ _ e, ?_⟩
      · rw [List.length_map, List.length_map, List.length_range]
        exact small1000 (by omega)
      · rw [upd_same, List.range_succ, List.map_append, List.map_append]
        rfl
    · rintro H1 ⟨k1, hL1⟩
      rw [hltz] at hL1
      refine ⟨L, _, rfl, .inl ⟨SqL.of hL1, fun t ht => ?_⟩⟩
      exact k _ t (fun b o e => by rw [upd_ne (ne_of_none (k1 _ _ e) ht)]; exact k1 _ _ e) upd_same
end
end Sl

set_option Elab.async false
set_option linter.all false
set_option maxRecDepth 100000
set_option maxHeartbeats 1000000
namespace Sl
open PySem PySem.Spec L2 OwnR LamX
section
variable {P : Program} {w : World} {K : PySem.W.Frag} {mg : Str → Option Value} {base : Heap}
/-! ### len(drive) -/
def spLenD (C : Addr) : Sp := fun vs H Q _ => ∃ (p : Addr) (secs : List Sec) (cars : List Car), vs = [.ref p] ∧ DA C H p secs cars ∧ Q (.int (cars.length : Nat)) H
theorem scLenD : FnScope ["self"] ["self"] (defScope sDLen) := ⟨rfl, rfl, rfl, by decide +kernel, rfl, by decide +kernel, by decide +kernel⟩
theorem ok_lenD {f C : Addr} {fd : FuncData} (F : Fun K "__len__" "Drive.__len__" sDLen f fd) (M : Mg mg) (R : DriveT K mg C) : FnOk P w K mg base CX0 1 f fd ["self"] (spLenD C) := by
  refine F.ok scLenD (fun vs H Q E h => ?_) (fun cdv A outer s H vs Q E hr h => ?_)
  · obtain ⟨p, secs, cars, rfl, _⟩ := h
    rfl
  · obtain ⟨p, secs, cars, rfl, ⟨H0, W, D⟩, k⟩ := h
    refine ⟨_, pss_one (ps_ret (pe_callB call_lenD (by rfl) M.len boot_len (pa_cons (pe_fld (pv 0) rfl) pa_nil))), ?_⟩
    refine ⟨_, rfl, p, C, W.dx, _, _, rfl, D.ins, R.cl, R.nP, df5_paces _ _ _ _ _, W.pd, _, rfl, D.pac, ?_⟩
    have e : (paceK cars).length = cars.length := by unfold paceK; rw [List.length_map]
    rw [e]
    exact k
/-! ### order_at -/
def spOrderAt (C : Addr) : Sp := fun vs H Q _ => ∃ (p : Addr) (secs : List Sec) (cars : List Car) (i : Nat), vs = [.ref p, .int (i : Nat)] ∧ DA C H p secs cars ∧ i ≤ secs.length ∧ ∀ l, H l = none → Q (.ref l) (upd H l (.lst ((plcC secs cars i).ord.map V.str)))
theorem scOrderAt : FnScope ["self", "place"] ["self", "place"] (defScope sDOrderAt) := ⟨rfl, rfl, rfl, by decide +kernel, rfl, by decide +kernel, by decide +kernel⟩
theorem DP.tdk {C : Addr} {H0 H : Hp} {p : Addr} {secs : List Sec} {cars : List Car} {m : Nat} {W : DW} (D : DP C H0 H p secs cars m W) {k : Nat} (h : k ≤ m) : ∃ d, W.tds[k]? = some d := ⟨_, List.getElem?_eq_getElem (by rw [D.ltl]; omega)⟩
theorem DP.odk {C : Addr} {H0 H : Hp} {p : Addr} {secs : List Sec} {cars : List Car} {m : Nat} {W : DW} (D : DP C H0 H p secs cars m W) {k : Nat} (h : k ≤ m) : ∃ d, W.ods[k]? = some d := ⟨_, List.getElem?_eq_getElem (by rw [D.lol]; omega)⟩
theorem DP.ldk {C : Addr} {H0 H : Hp} {p : Addr} {secs : List Sec} {cars : List Car} {m : Nat} {W : DW} (D : DP C H0 H p secs cars m W) {k : Nat} (h : k < m) : ∃ d, W.lds[k]? = some d := ⟨_, List.getElem?_eq_getElem (by rw [D.lll]; omega)⟩
theorem map_at {α β : Type} {xs : List α} {k : Nat} {v : α} (f : α → β) (h : xs[k]? = some v) : (xs.map f)[k]? = some (f v) := by rw [List.getElem?_map, h]; rfl
theorem ok_orderAt {f fB C : Addr} {fd dB : FuncData} (F : Fm K C "order_at" "Drive.order_at" sDOrderAt ["self", "place"] f fd) (M : Mg mg) (R : DriveT K mg C) (BC : Fm K C "_check_place" "Drive._check_place" sDCheckPlace ["self", "place"] fB dB)
    (GC : FnOk P w K mg base CX0 2 fB dB ["self", "place"] (spCheckPlace C)) : FnOk P w K mg base CX0 3 f fd ["self", "place"] (spOrderAt C) := by
  refine F.fn.ok scOrderAt (fun vs H Q E h => ?_) (fun cdv A outer s H vs Q E hr h => ?_)
  · obtain ⟨p, secs, cars, i, rfl, _⟩ := h
    rfl
  · obtain ⟨p, secs, cars, i, rfl, ⟨H0, W, D⟩, hi, k⟩ := h
    refine ⟨_, pss_cons (ps_expr (pe_meth (pv 0) R.cl BC.at_ GC hr BC.bd .nil pass0 (pa_cons (pv 1) pa_nil)))
      (pss_one (ps_ret (pe_callTy call_list_of (by rfl) M.list (by decide +kernel) (pa_cons (pe_ix ix_list (pe_fld (pv 0) rfl) (pv 1) (fun _ _ => rfl)) pa_nil)))), ?_⟩
    obtain ⟨od, hod⟩ := D.odk hi
    refine ⟨_, rfl, p, W.dx, _, rfl, D.ins, df5_no _ _ _ _ _ (by decide +kernel) (by decide +kernel) (by decide +kernel) (by decide +kernel) (by decide +kernel), _, rfl, p, secs, cars, i, rfl, ⟨H0, W, D⟩, hi, ?_⟩
    refine ⟨_, rfl, p, C, W.dx, _, _, rfl, D.ins, R.cl, R.nO, df5_orders _ _ _ _ _, _, rfl, W.lo, _, _, .ref od, rfl, rfl, SqL.of D.lo, atI_nat (map_at V.ref hod), ?_⟩
    exact ⟨od, _, rfl, .inl (SqL.of (D.od i od hod)), k⟩
def strO (o : Option Str) : V := (o.map V.str).getD .non
/-! ### drive(name), drive(name, place) -/
def spCallD (C : Addr) : Sp := fun vs H Q _ => ∃ (p : Addr) (secs : List Sec) (cars : List Car) (n : Str) (i : Nat) (pl : V), vs = [.ref p, .str n, pl] ∧ DA C H p secs cars ∧ n ∈ names cars ∧ i ≤ secs.length ∧ ((pl = .non ∧ i = secs.length) ∨ pl = .int (i : Nat)) ∧ Q (.int ((plcC secs cars i).tk n)) H
theorem scCallD : FnScope ["self", "name", "place"] ["self", "name", "place"] (defScope sDCall) := ⟨rfl, rfl, rfl, by decide +kernel, rfl, by decide +kernel, by decide +kernel⟩
theorem ok_callD {f fB fC C : Addr} {fd dB dC : FuncData} (F : FunD K "__call__" "Drive.__call__" (defArgs sDCall) (defBody sDCall) (defScope sDCall) [.non] [] f fd) (M : Mg mg) (R : DriveT K mg C)
    (BC : Fm K C "_check_car" "Drive._check_car" sDCheckCar ["self", "name"] fC dC) (GC : FnOk P w K mg base CX0 2 fC dC ["self", "name"] (spCheckCar C))
    (BB : Fm K C "_check_place" "Drive._check_place" sDCheckPlace ["self", "place"] fB dB) (GB : FnOk P w K mg base CX0 2 fB dB ["self", "place"] (spCheckPlace C)) : FnOk P w K mg base CX0 3 f fd ["self", "name", "place"] (spCallD C) := by
  refine F.ok (CX := CX0) scCallD (fun vs H Q E h => ?_) (fun cdv A outer s H vs Q E hr h => ?_)
  · obtain ⟨p, secs, cars, n, i, pl, rfl, _⟩ := h
    rfl
  · suffices hq : ∃ t, PSs (cxOf CX0 P w K mg base ["self", "name", "place"] "Drive.__call__" (defScope sDCall) f cdv A outer s H E).nox (defBody sDCall) t ∧ t { nx := fun _ H' => Q .non H', rt := Q } (start ["self", "name", "place"] vs) H by
      obtain ⟨t, h1, h2⟩ := hq
      exact ⟨t, h1.nox, h2⟩
    obtain ⟨p, secs, cars, n, i, pl, rfl, ⟨H0, W, D⟩, hn, hi, hpl, k⟩ := h
    have hu := hu_of hr
    have nd := scCallD.nd
    refine ⟨_, pss_cons (ps_expr (pe_meth (pv 0) R.cl BC.at_ GC hr BC.bd .nil pass0 (pa_cons (pv 1) pa_nil)))
      (pss_cons (ps_if (pt_cmp (pc_isN (pv 2)) (by rfl)) (pss_one (ps_set (i := 2) nd rfl (.inl rfl) (pe_callB call_len_seq (by rfl) M.len boot_len (pa_cons (pe_fld (pv 0) rfl) pa_nil)))) pss_nil)
      (pss_cons (ps_expr (pe_meth (pv 0) R.cl BB.at_ GB hr BB.bd .nil pass0 (pa_cons (pv 2) pa_nil)))
      (pss_one (ps_ret (pe_dget hu (pe_ix ix_list (pe_fld (pv 0) rfl) (pv 2) (fun _ _ => rfl)) (pv 1) (fun _ _ => rfl)))))), ?_⟩
    obtain ⟨td, htd⟩ := D.tdk hi
    obtain ⟨kv, a1, a2⟩ := D.tk i td htd
    obtain ⟨us, u1, u2, u3⟩ := D.sec
    have nf : ∀ {m : Str}, (¬ m = "_sections") → (¬ m = "_paces") → (¬ m = "_ticks") → (¬ m = "_orders") → (¬ m = "_leaders") → (df5 W.sc W.pd W.lt W.lo W.ll).lookup m = none := fun a b c d e => df5_no _ _ _ _ _ a b c d e
    refine ⟨_, rfl, p, W.dx, _, rfl, D.ins, nf (by decide +kernel) (by decide +kernel) (by decide +kernel) (by decide +kernel) (by decide +kernel), _, rfl, p, secs, cars, n, rfl, ⟨H0, W, D⟩, hn, ?_⟩
    rcases hpl with ⟨rfl, rfl⟩ | rfl
    · refine ⟨_, rfl, _, rfl, ?_⟩
      rw [show decide (V.non = V.non) = true by simp]
      refine iteT ?_
      refine ⟨_, rfl, p, C, W.dx, _, _, rfl, D.ins, R.cl, R.nS, df5_sections _ _ _ _ _, W.sc, _, rfl, .inr (SqT.of u1), ?_⟩
      rw [List.length_map, u2]
      refine ⟨_, rfl, p, W.dx, _, rfl, D.ins, nf (by decide +kernel) (by decide +kernel) (by decide +kernel) (by decide +kernel) (by decide +kernel), _, rfl, p, secs, cars, secs.length, rfl, ⟨H0, W, D⟩, hi, ?_⟩
      refine ⟨_, rfl, p, C, W.dx, _, _, rfl, D.ins, R.cl, R.nT, df5_ticks _ _ _ _ _, _, rfl, W.lt, _, _, .ref td, rfl, rfl, SqL.of D.lt, atI_nat (map_at V.ref htd), ?_⟩
      exact ⟨_, rfl, td, _, rfl, gk a1 (a2 n hn), k⟩
    · refine ⟨_, rfl, _, rfl, ?_⟩
      rw [show decide (V.int ((i : Nat) : Int) = V.non) = false by simp]
      refine iteF ?_
      refine ⟨_, rfl, p, W.dx, _, rfl, D.ins, nf (by decide +kernel) (by decide +kernel) (by decide +kernel) (by decide +kernel) (by decide +kernel), _, rfl, p, secs, cars, i, rfl, ⟨H0, W, D⟩, hi, ?_⟩
      refine ⟨_, rfl, p, C, W.dx, _, _, rfl, D.ins, R.cl, R.nT, df5_ticks _ _ _ _ _, _, rfl, W.lt, _, _, .ref td, rfl, rfl, SqL.of D.lt, atI_nat (map_at V.ref htd), ?_⟩
      exact ⟨_, rfl, td, _, rfl, gk a1 (a2 n hn), k⟩
end
end Sl


set_option Elab.async false
set_option linter.all false
set_option maxRecDepth 100000
set_option maxHeartbeats 1000000
/-! for and if within a generator's body. -/
namespace OwnR
open PySem PySem.Spec PyProof.Rows L2 GenW
section
variable {X : Cx}
def tGIf (c : TT) (a b : TGn) : TGn := fun D ys σ H => c σ H fun d H1 => if d = true then a D ys σ H1 else b D ys σ H1
theorem gs_if {test : Expr} {a b : List Stmt} {pos : Pos} {tc : TT} {ta tb : TGn} (hc : PT X test tc) (ha : GSs X a ta) (hb : GSs X b tb) : GS X (.If test a b pos) (tGIf tc ta tb) := by
  refine ⟨fun A S ip R n ys s₀ c fs K J gd lv s σ H D g hn k hI ht => ?_⟩
  obtain ⟨acc, cc, r, I⟩ := hI
  rw [exec_If]
  refine seg_bind_wrap (wpAny_standAt ?_)
  refine seg_bind_wrap ?_
  rw [g.over]
  refine wpAny_mono (hc.run _ s σ H _ I ht) (fun d s' hd => ?_) fun x s' hx => k.exc n s₀ x s' hx
  obtain ⟨H2, I2, q2⟩ := hd
  cases d with
  | true => exact ha.run A S ip R n ys s₀ c fs K J gd lv s' σ H2 D g hn k ⟨acc, cc, r, I2⟩ q2
  | false => exact hb.run A S ip R n ys s₀ c fs K J gd lv s' σ H2 D g hn k ⟨acc, cc, r, I2⟩ q2
end
section
variable {prog : Program} {w : World} {A : Around} {R : GenEnd} {Y : Protocol} {n : Nat} {s₀ : Shared} {fs : List Frame} {s : Shared} {env : Env}
abbrev noteE (env : Env) (e : Value) : Sem PySem.Fin := (do noteFrame e env; theTreesLotGoes e : Sem Unit).wrap (fun _ => .raise e) .raise id id
theorem seg_forTurn {tg : Expr} {it : Value} {body : List Stmt}
    (h : wpAny (model prog w) (A.over (.forLoop tg it body [] env) fs) (pyNext it) (fun r s1 => match r with
        | none => Seg (model prog w) A R Y n s₀ (.forLoop tg it body [] env) (.pure (.again (.block [] env))) fs s1
        | some v => wpAny (model prog w) (A.over (.forLoop tg it body [] env) fs) (letOwnedTupleGo tg it v) (fun _ s2 => wpAny (model prog w) (A.over (.forLoop tg it body [] env) fs) (assign tg env v) (fun _ s3 =>
            Seg (model prog w) A R Y n s₀ (.forLoop tg it body [] env) ((execs body env).wrap (fun f => match f with
              | .next | .cont => .pure (.again (.forLoop tg it body [] env))
              | .brk => .pure (.done .next)
              | .ret v => .pure (.done (.ret v))) (noteE env) id id) fs s3)
            (fun x s' => Seg (model prog w) A R Y n s₀ (.forLoop tg it body [] env) (noteE env x) fs s') s2)
          (fun x s' => Seg (model prog w) A R Y n s₀ (.forLoop tg it body [] env) (noteE env x) fs s') s1)
      (fun x s' => Seg (model prog w) A R Y n s₀ (.forLoop tg it body [] env) (noteE env x) fs s') s) :
    Seg (model prog w) A R Y n s₀ (.forLoop tg it body [] env) ((model prog w).den (.forLoop tg it body [] env)) fs s := by
  have ee : ∀ x s', Seg (model prog w) A R Y n s₀ (.forLoop tg it body [] env) (noteE env x) fs s' → Seg (model prog w) A R Y n s₀ (.forLoop tg it body [] env) ((do noteFrame x env; theTreesLotGoes x : Sem Unit).bind fun _ => (.raise x : Sem PySem.Fin)) fs s' := fun x s' hx => by
    rw [Sem.bind_eq_wrap]
    exact hx
  show Seg _ A R Y n s₀ _ ((forTurn tg it body [] env).onRaise (fun x => do noteFrame x env; theTreesLotGoes x)) fs s
  unfold forTurn
  rw [Sem.onRaise_eq_wrap]
  refine seg_bind_wrap (wpAny_standAt ?_)
  refine seg_bind_wrap (wpAny_onRaise (wpAny_mono h (fun r s1 h1 => ?_) fun x s' hx => wpAny_standAt (ee x s' hx)))
  cases r with
  | none => exact h1
  | some v =>
    refine seg_bind_wrap (wpAny_mono h1 (fun _ s2 h2 => ?_) fun x s' hx => ee x s' hx)
    refine seg_bind_wrap (wpAny_mono h2 (fun _ s3 h3 => ?_) fun x s' hx => ee x s' hx)
    rw [Sem.bind_eq_wrap', Sem.wrap_wrap]
    rw [Sem.wrap_congr (execs body env) _ _ (K' := fun f => match f with
            | .next | .cont => .pure (.again (.forLoop tg it body [] env))
            | .brk => .pure (.done .next)
            | .ret v => .pure (.done (.ret v))) (H' := noteE env)
        (fun f => by cases f <;> rfl)
        (fun e => by first | exact Sem.bind_eq_wrap _ _ | (show (do noteFrame e env; theTreesLotGoes e : Sem Unit).bind (fun _ => .raise e) = _; rw [Sem.bind_eq_wrap]))]
    exact h3
end
section
variable {X : Cx}
def tGFor (wi : TI) (g : TG) (tb : TGn) : TGn := fun D ys σ H => wi σ H fun J H1 => ∃ W : Nat → Nat → List V → L2.St → Hp → Prop, (∃ m, W 0 m ys σ H1) ∧ ∀ i m ys σ H, W i m ys σ H →
  (J.stop i H ∧ D.nx ys σ H) ∨ (J.go i H ∧ ∃ N : List V → L2.St → Hp → Prop, (∀ ys' σ' H', N ys' σ' H' → ∃ m', m' < m ∧ W (i + 1) m' ys' σ' H') ∧ ∀ x H', J.yld i H x H' → g x σ H' fun σ2 H2 => tb { D with nx := N, ct := N, bk := D.nx } ys σ2 H2)
theorem gi_fewer {S : Addr} {ip pl : List (Addr × Obj)} {ys : List V} {σ : L2.St} {H : Hp} {s : Shared} (h : GI X S (ip ++ pl) ys σ H s) : GI X S ip ys σ H s := by
  obtain ⟨acc, c, r, I⟩ := h
  exact ⟨acc, c, r, Inv.unpinned (pins := (S, lstObj acc c) :: ip) (pl := pl) I⟩
theorem gs_for {tg iter : Expr} {body : List Stmt} {wi : TI} {g : TG} {tb : TGn} {pos : Pos} (hp : PassesOwn (model X.prog X.w) X.A X.env X.xe) (hc : X.calm = true) (hi : PI X tg iter wi) (hg : PG X tg g) (hb : GSs X body tb)
    (hs : ∀ x, foldedSetIterable iter X.env x = pure x := by intro _; rfl) : GS X (.For tg iter body [] pos) (tGFor wi g tb) := by
  refine ⟨fun A S ip R n ys s₀ c fs K J gd lv s σ H D gc hn k hI ht => ?_⟩
  obtain ⟨acc, cc, r, I⟩ := hI
  rw [exec_For]
  refine seg_bind_wrap (wpAny_standAt ?_)
  refine seg_bind_wrap ?_
  rw [gc.over]
  refine wpAny_mono (hi.run _ s σ H _ I ht) (fun v s1 h1 => ?_) fun x s' hx => k.exc n s₀ x s' hx
  refine seg_bind_wrap (wpAny_of_eq (hs v) ?_)
  refine seg_bind_wrap (wpAny_standAt ?_)
  refine seg_bind_wrap (wpAny_holding ?_)
  rw [gc.over]
  refine wpAny_mono h1 (fun itv s2 h2 => ?_) fun x s' hx => k.exc n s₀ x s' hx
  obtain ⟨it, fp, tn, J', H2, e, I2, T, st2, f2, W, ⟨m0, w0⟩, turn⟩ := h2
  subst e
  refine seg_call fun p => ?_
  have gl := fun (kk : Result → Sem PySem.Fin) => gc_loop (k := kk) (c' := .forLoop tg (.ref it) body [] X.env) (l := lv []) (kp := []) (p := p) gc rfl rfl
  have glb := fun (kk : Result → Sem PySem.Fin) => gc_loop (k := kk) (c' := .block [] X.env) (l := lv []) (kp := []) (p := p) gc rfl rfl
  have nS : ∀ b ∈ fp, b ≠ S := fun b hb => ((f2 b hb).2.2.2.2.2 (S, lstObj acc cc) (List.mem_append_right _ List.mem_cons_self)).symm
  have stat : ∀ {H' : Hp} {a2 : Array Value} {c2 : Nat}, (∀ b ∈ fp, H' b = none) → ∀ b ∈ fp, FpOk X ((S, lstObj a2 c2) :: ip) H' b := fun hn b hb => by
    obtain ⟨_, q1, q2, q3, q4, q5⟩ := f2 b hb
    refine ⟨hn b hb, q1, q2, q3, q4, fun p hp => ?_⟩
    rcases List.mem_append.mp hp with z | z
    · exact q5 p (List.mem_append_left _ z)
    · rcases List.mem_cons.mp z with z | z
      · rw [z]
        exact (nS b hb).symm
      · exact q5 p (List.mem_append_right _ (List.mem_cons_of_mem _ z))
  have loop : ∀ (m i n : Nat) (ys : List V) (s₀ s : Shared) (σ : L2.St) (H : Hp), n + ys.length = sizeLine → W i m ys σ H → GI X S ip ys σ H s → tn i s.heap → (∀ b ∈ fp, H b = none) →
      Seg (model X.prog X.w) A R (GY X S) n s₀ (.forLoop tg (.ref it) body [] X.env) ((model X.prog X.w).den (.forLoop tg (.ref it) body [] X.env))
        (.ret (fun r => ((match r with | .ok f => (.pure f : Sem Flow) | .error e => .raise e).onRaise (cameBack X.env)).wrap K J gd lv) none (gd false) (lv []) c p [] :: fs) s := by
    intro m
    induction m using Nat.strongRecOn with
    | ind m ih =>
      intro i n ys s₀ s σ H hn w hI st fr
      have ee : ∀ (n : Nat) (s₀ : Shared) (x : Value) (s' : Shared), X.xe x s' → Seg (model X.prog X.w) A R (GY X S) n s₀ (.forLoop tg (.ref it) body [] X.env) (noteE X.env x)
          (.ret (fun r => ((match r with | .ok f => (.pure f : Sem Flow) | .error e => .raise e).onRaise (cameBack X.env)).wrap K J gd lv) none (gd false) (lv []) c p [] :: fs) s' := fun n s₀ x s' hx => by
        refine seg_wrap ?_
        rw [(gl _).over]
        refine wpAny_bind (wpAny_mono (hp x s' hx) (fun _ s'' hcb => wpAny_theTreesLotGoes ?_) fun y s'' hcb => ?_)
        · exact seg_leaf (.error x) (seg_cameBack gc k hcb)
        · exact seg_leaf (.error y) (seg_cameBack gc k hcb)
      refine seg_forTurn ?_
      rw [(gl _).over]
      obtain ⟨acc, cc, r, I⟩ := hI
      rcases turn i m ys σ H w with ⟨stop, qn⟩ | ⟨go, N, hN, step⟩
      · refine wpAny_mono (T.done X rfl rfl rfl hc i _ s σ H X.xe I (stat fr) st stop) (fun r s4 ⟨hr, I4⟩ => ?_) fun x s' hx => ee n s₀ x s' hx
        subst hr
        refine seg_again rfl ?_
        exact seg_leaf (.ok .next) (k.ok n ys s₀ s4 .next hn ⟨σ, H, ⟨acc, cc, r, I4⟩, qn⟩)
      · refine wpAny_mono (T.item X rfl rfl rfl hc i _ s σ H X.xe I (stat fr) st go) (fun r0 s4 ⟨u, hr, h4⟩ => ?_) fun x s' hx => ee n s₀ x s' hx
        subst hr
        refine wpAny_mono h4 (fun _ s5 ⟨x, H5, I5, r5, y5, st5, fr5⟩ => ?_) fun x s' hx => ee n s₀ x s' hx
        have I5' := I5.pinned (stat fr5) (T.obj _ _ st5)
        refine wpAny_mono (hg.run _ s5 σ H5 x u _ I5' r5 (step x H5 y5)) (fun _ s6 ⟨σ6, H6, I6, q6⟩ => ?_) fun x s' hx => ee n s₀ x s' hx
        have gl2 : GC X S (ip ++ pinsAt fp s5.heap) A (.forLoop tg (.ref it) body [] X.env) (.ret (fun r => ((match r with | .ok f => (.pure f : Sem Flow) | .error e => .raise e).onRaise (cameBack X.env)).wrap K J gd lv) none (gd false) (lv []) c p [] :: fs) id :=
          { gl _ with ip := fun q hq => (List.mem_append.mp hq).elim (fun z => gc.ip q z) fun z => nS _ (of_pinsAt z).1 }
        have again : ∀ {n' : Nat} {ys' : List V} {s₀' s7 : Shared} {σ7 : L2.St} {H7 : Hp}, n' + ys'.length = sizeLine → GI X S (ip ++ pinsAt fp s5.heap) ys' σ7 H7 s7 → N ys' σ7 H7 →
            Seg (model X.prog X.w) A R (GY X S) n' s₀' (.forLoop tg (.ref it) body [] X.env) (.pure (.again (.forLoop tg (.ref it) body [] X.env)))
              (.ret (fun r => ((match r with | .ok f => (.pure f : Sem Flow) | .error e => .raise e).onRaise (cameBack X.env)).wrap K J gd lv) none (gd false) (lv []) c p [] :: fs) s7 := fun {n' ys' s₀' s7 σ7 H7} hn' G7 n7 => by
          obtain ⟨m', hm, w7⟩ := hN ys' σ7 H7 n7
          obtain ⟨acc7, c7, r7, I7⟩ := id G7
          refine seg_again rfl (ih m' hm (i + 1) n' ys' s₀' s7 σ7 H7 hn' w7 (gi_fewer G7) (T.keep _ _ _ st5 fun b hb o e => ?_) fun b hb => ?_)
          · exact (I7.pin (b, o) (List.mem_append_right _ (List.mem_cons_of_mem _ (List.mem_append_right _ (mem_pinsAt hb e))))).1
          · obtain ⟨o, e, d⟩ := T.obj _ _ st5 b hb
            exact (I7.pin (b, o) (List.mem_append_right _ (List.mem_cons_of_mem _ (List.mem_append_right _ (mem_pinsAt hb e))))).2.1
        refine hb.run A S (ip ++ pinsAt fp s5.heap) R n ys s₀ _ _ _ _ id id s6 σ6 H6 { D with nx := N, ct := N, bk := D.nx } gl2 hn ⟨fun n' ys' s₀' s7 f hn' hs => ?_, fun n' s₀' x s7 hx => ee n' s₀' x s7 hx⟩ ⟨acc, cc, r, I6⟩ q6
        cases f with
        | next => obtain ⟨σ7, H7, G7, n7⟩ := hs; exact again hn' G7 n7
        | cont => obtain ⟨σ7, H7, G7, n7⟩ := hs; exact again hn' G7 n7
        | brk => obtain ⟨σ7, H7, G7, q7⟩ := hs; exact seg_leaf (.ok .next) (k.ok n' ys' s₀' s7 .next hn' ⟨σ7, H7, (gi_fewer G7), q7⟩)
        | ret v => obtain ⟨x7, σ7, H7, G7, r7, q7⟩ := hs; exact seg_leaf (.ok (.ret v)) (k.ok n' ys' s₀' s7 (.ret v) hn' ⟨x7, σ7, H7, (gi_fewer G7), r7, q7⟩)
  exact loop m0 0 n ys s₀ s2 σ H2 hn w0 ⟨acc, cc, r, I2⟩ st2 fun b hb => (f2 b hb).1
/-- over any walk -/
theorem gfor_it {J : It} {n : Nat} {G : Hp → Prop} {Y : Nat → Hp → V → Hp → Prop} (w : Walk J n G Y) {g : TG} {tb : TGn} {D : GEnds} {ys : List V} {σ : L2.St} {H : Hp} (Pv : Nat → List V → L2.St → Hp → Prop) (h0 : Pv 0 ys σ H) (hG : ∀ i ys σ H, i ≤ n → Pv i ys σ H → G H)
    (hs : ∀ i x ys σ H H', i < n → Pv i ys σ H → Y i H x H' → g x σ H' fun σ2 H2 => tb { D with nx := Pv (i + 1), ct := Pv (i + 1), bk := D.nx } ys σ2 H2) (hd : ∀ ys σ H, Pv n ys σ H → D.nx ys σ H) :
    ∃ W : Nat → Nat → List V → L2.St → Hp → Prop, (∃ m, W 0 m ys σ H) ∧ ∀ i m ys σ H, W i m ys σ H →
      (J.stop i H ∧ D.nx ys σ H) ∨ (J.go i H ∧ ∃ N : List V → L2.St → Hp → Prop, (∀ ys' σ' H', N ys' σ' H' → ∃ m', m' < m ∧ W (i + 1) m' ys' σ' H') ∧ ∀ x H', J.yld i H x H' → g x σ H' fun σ2 H2 => tb { D with nx := N, ct := N, bk := D.nx } ys σ2 H2) := by
  refine ⟨fun i m ys σ H => m = n - i ∧ i ≤ n ∧ Pv i ys σ H, ⟨n, by simp, Nat.zero_le _, h0⟩, ?_⟩
  rintro i m ys σ H ⟨rfl, hi, p⟩
  have q := hG i ys σ H hi p
  by_cases hlt : i < n
  · exact .inr ⟨w.goes i H hlt q, Pv (i + 1), fun ys' σ' H' p' => ⟨n - (i + 1), by omega, rfl, hlt, p'⟩, fun x H' y => hs i x ys σ H H' hlt p (w.yields i H x H' hlt q y)⟩
  · have e : i = n := by omega
    subst e
    exact .inl ⟨w.stops H q, hd ys σ H p⟩
end
end OwnR

set_option Elab.async false
set_option linter.all false
set_option maxRecDepth 100000
set_option maxHeartbeats 1000000
namespace Sl
open PySem PySem.Spec L2 OwnR LamX
/-! ### overtakings -/
def posL (n : Str) : List Str → Nat
  | [] => 0
  | a :: r => if a = n then 0 else posL n r + 1
theorem posL_at {n : Str} : ∀ {l : List Str}, n ∈ l → l[posL n l]? = some n
  | a :: r, h => by
    unfold posL
    by_cases e : a = n
    · rw [if_pos e, e]
      rfl
    · rw [if_neg e]
      have hm : n ∈ r := (List.mem_cons.mp h).elim (fun z => absurd z.symm e) id
      have := posL_at hm
      simpa using this
theorem posL_not {n : Str} : ∀ {l : List Str} {m : Nat} {z : Str}, l[m]? = some z → m < posL n l → z ≠ n
  | a :: r, m, z, h, hm => by
    unfold posL at hm
    by_cases e : a = n
    · rw [if_pos e] at hm
      omega
    · rw [if_neg e] at hm
      cases m with
      | zero =>
        have : a = z := by simpa using h
        rw [← this]
        exact e
      | succ m => exact posL_not (l := r) (m := m) (by simpa using h) (by omega)
abbrev OvT := Nat × Str × Str
def ovIn (after : List Str) (k i : Nat) (n : Str) (l : List Str) : List OvT := (l.filter fun o => decide (o ∈ after.drop (i + 1))).map fun o => (k, n, o)
def ovMid (before after : List Str) (k i : Nat) : List OvT := match after[i]? with
  | some n => ovIn after k i n (before.take (posL n before))
  | none => []
def ovSec (before after : List Str) (k i : Nat) : List OvT := (List.range i).flatMap (ovMid before after k)
def ovAll (secs : List Sec) (cars : List Car) (i : Nat) : List OvT := (List.range i).flatMap fun k => ovSec (plcC secs cars k).ord (plcC secs cars (k + 1)).ord k cars.length
theorem ovIn_snoc (after : List Str) (k i : Nat) (n : Str) (l : List Str) (o : Str) : ovIn after k i n (l ++ [o]) = ovIn after k i n l ++ (if o ∈ after.drop (i + 1) then [(k, n, o)] else []) := by
  unfold ovIn
  rw [List.filter_append, List.map_append]
  by_cases h : o ∈ after.drop (i + 1)
  · rw [if_pos h]
    simp [h]
  · rw [if_neg h]
    simp [h]
theorem ovSec_succ (before after : List Str) (k i : Nat) : ovSec before after k (i + 1) = ovSec before after k i ++ ovMid before after k i := by
  unfold ovSec
  rw [List.range_succ, List.flatMap_append]
  simp
theorem ovAll_succ (secs : List Sec) (cars : List Car) (i : Nat) : ovAll secs cars (i + 1) = ovAll secs cars i ++ ovSec (plcC secs cars i).ord (plcC secs cars (i + 1)).ord i cars.length := by
  unfold ovAll
  rw [List.range_succ, List.flatMap_append]
  simp
theorem ovIn_len (after : List Str) (k i : Nat) (n : Str) (l : List Str) : (ovIn after k i n l).length ≤ l.length := by
  unfold ovIn
  rw [List.length_map]
  exact List.length_filter_le _ _
theorem ovMid_len {before : List Str} (after : List Str) (k i : Nat) {b : Nat} (h : before.length ≤ b) : (ovMid before after k i).length ≤ b := by
  unfold ovMid
  split
  · refine Nat.le_trans (ovIn_len _ _ _ _ _) ?_
    rw [List.length_take]
    omega
  · exact Nat.zero_le _
theorem ovSec_len {before : List Str} (after : List Str) (k : Nat) {b : Nat} (h : before.length ≤ b) : ∀ i, (ovSec before after k i).length ≤ i * b
  | 0 => by simp [ovSec]
  | i + 1 => by
    have h1 := ovSec_len after k h i
    have h2 := ovMid_len after k i h
    rw [ovSec_succ, List.length_append, Nat.succ_mul]
    omega
theorem ovAll_len {secs : List Sec} {cars : List Car} (h : cars.length ≤ 10) : ∀ i, (ovAll secs cars i).length ≤ i * 100
  | 0 => by simp [ovAll]
  | i + 1 => by
    have h1 := ovAll_len (secs := secs) h i
    have h2 : (ovSec (plcC secs cars i).ord (plcC secs cars (i + 1)).ord i cars.length).length ≤ cars.length * 10 := ovSec_len _ _ (by
      rw [(plcC_perm secs cars i).length_eq]
      unfold names
      rw [List.length_map]
      exact h) _
    rw [ovAll_succ, List.length_append, Nat.succ_mul]
    omega
def ovV (q : OvT) : List V := [.int (q.1 : Nat), .str q.2.1, .str q.2.2]
def OvAt (H : Hp) (ys : List V) (l : List OvT) : Prop := ys.length = l.length ∧ ∀ (j : Nat) (y : V) (q : OvT), ys[j]? = some y → l[j]? = some q → ∃ t, y = .ref t ∧ H t = some (.tup (ovV q))
theorem OvAt.keep {H H' : Hp} {ys : List V} {l : List OvT} (h : OvAt H ys l) (e : Same H H') : OvAt H' ys l := ⟨h.1, fun j y q e1 e2 => let ⟨t, z1, z2⟩ := h.2 j y q e1 e2; ⟨t, z1, e _ _ z2⟩⟩
theorem OvAt.more {H : Hp} {ys : List V} {l : List OvT} {q : OvT} {t : Addr} (h : OvAt H ys l) (e : H t = some (.tup (ovV q))) : OvAt H (ys ++ [.ref t]) (l ++ [q]) := by
  refine ⟨by rw [List.length_append, List.length_append, h.1]; rfl, fun j y p e1 e2 => ?_⟩
  rcases snoc_get e1 with e1 | ⟨hj, rfl⟩
  · have hj := (List.getElem?_eq_some_iff.mp e1).1
    rw [List.getElem?_append_left (by rw [← h.1]; exact hj)] at e2
    exact h.2 j y p e1 e2
  · rcases snoc_get e2 with e2 | ⟨_, rfl⟩
    · have := (List.getElem?_eq_some_iff.mp e2).1
      rw [h.1] at hj
      omega
    · exact ⟨t, rfl, e⟩
theorem cut_to {l : List V} {k : Nat} (h : k ≤ l.length) : cutV l none (some (k : Nat)) = l.take k := by
  unfold cutV
  have e : HT.sIx l.length l.length (some ((k : Nat) : Int)) = k := by
    show (if ((k : Nat) : Int) < 0 then (((k : Nat) : Int) + ((l.length : Nat) : Int)).toNat else min (((k : Nat) : Int)).toNat l.length) = k
    rw [if_neg (by omega)]
    omega
  have e0 : HT.sIx l.length 0 none = 0 := rfl
  rw [e, e0]
  simp
theorem cut_from {l : List V} {k : Nat} (h : k ≤ l.length) : cutV l (some (k : Nat)) none = l.drop k := by
  unfold cutV
  have e : HT.sIx l.length 0 (some ((k : Nat) : Int)) = k := by
    show (if ((k : Nat) : Int) < 0 then (((k : Nat) : Int) + ((l.length : Nat) : Int)).toNat else min (((k : Nat) : Int)).toNat l.length) = k
    rw [if_neg (by omega)]
    omega
  have e0 : HT.sIx l.length l.length none = l.length := rfl
  rw [e, e0]
  apply List.take_of_length_le
  rw [List.length_drop]
  exact Nat.le_refl _
section
variable {P : Program} {w : World} {K : PySem.W.Frag} {mg : Str → Option Value} {base : Heap}
end
end Sl

set_option Elab.async false
set_option linter.all false
set_option maxRecDepth 100000
set_option maxHeartbeats 1000000
namespace Sl
open PySem PySem.Spec L2 OwnR LamX
/-! ### losses -/
def unitsN (secs : List Sec) : Nat := (secs.map (·.2)).sum
def lossOf (secs : List Sec) (cars : List Car) (c : Car) : Int := (plcC secs cars secs.length).tk c.name - startOf cars c.name - c.pace * ((unitsN secs : Nat) : Int)
def lossK (secs : List Sec) (cars : List Car) : List (Key × V) := cars.map fun c => (Sum.inr c.name, V.int (lossOf secs cars c))
theorem sum_int : ∀ l : List Nat, (l.map fun n => ((n : Nat) : Int)).sum = ((l.sum : Nat) : Int)
  | [] => rfl
  | a :: r => by
    rw [List.map_cons, List.sum_cons, List.sum_cons, sum_int r]
    omega
theorem gkR {H : Hp} {a : Addr} {kvs : List (Key × V)} {n : Str} {v : V} (e : Rd H a (.dK kvs)) (h : valV kvs (Sum.inr n : Key) = some v) : DGet H a (.str n) (some v) := .inl ⟨kvs, Sum.inr n, e, rfl, h.symm⟩
section
variable {P : Program} {w : World} {K : PySem.W.Frag} {mg : Str → Option Value} {base : Heap}
end
end Sl

set_option Elab.async false
set_option linter.all false
set_option maxRecDepth 100000
set_option maxHeartbeats 1000000
namespace Sl
open PySem PySem.Spec L2 OwnR LamX
/-! ### the law's row of drawn numbers -/
def KeepB (r : Addr) (H H' : Hp) : Prop := ∀ b o, H b = some o → b ≠ r → H' b = some o
theorem KeepB.refl (r : Addr) (H : Hp) : KeepB r H H := fun _ _ e _ => e
theorem KeepB.trans {r : Addr} {H H1 H2 : Hp} (a : KeepB r H H1) (b : KeepB r H1 H2) : KeepB r H H2 := fun x o e n => b x o (a x o e n) n
theorem KeepB.of {r : Addr} {H H1 : Hp} (a : Same H H1) : KeepB r H H1 := fun x o e _ => a x o e
theorem KeepB.upd {r : Addr} {H : Hp} (o : HO) : KeepB r H (upd H r o) := fun x p e n => by rw [upd_ne n]; exact e
structure RowAt (K : PySem.W.Frag) (H : Hp) (r sc : Addr) (ns : List Int) : Prop where
  at_ : ∃ (a : Nat) (b c : Int), H r = some (.lst [.ref sc, .int (a : Nat), .int b, .int c])
  scr : ∀ H', KeepB r H H' → SqL K H' sc (ns.map V.int)
theorem KeepB.sqL {K : PySem.W.Frag} {r a : Addr} {H H' : Hp} {xs : List V} (k : KeepB r H H') (n : a ≠ r) (h : SqL K H a xs) : SqL K H' a xs := by
  rcases h with (h | ⟨o, h⟩) | h
  · exact .inl (.inl (k _ _ h n))
  · exact .inl (.inr ⟨o, k _ _ h n⟩)
  · exact .inr h
theorem RowAt.put {K : PySem.W.Frag} {H : Hp} {r sc : Addr} {ns : List Int} (R : RowAt K H r sc ns) (a : Nat) (b c : Int) : RowAt K (upd H r (.lst [.ref sc, .int (a : Nat), .int b, .int c])) r sc ns :=
  ⟨⟨a, b, c, upd_same⟩, fun H' k => R.scr H' ((KeepB.upd _).trans k)⟩
theorem RowAt.same {K : PySem.W.Frag} {H H' : Hp} {r sc : Addr} {ns : List Int} (R : RowAt K H r sc ns) (e : Same H H') : RowAt K H' r sc ns :=
  ⟨let ⟨a, b, c, h⟩ := R.at_; ⟨a, b, c, e _ _ h⟩, fun H2 k => R.scr H2 ((KeepB.of e).trans k)⟩
theorem RowAt.now {K : PySem.W.Frag} {H : Hp} {r sc : Addr} {ns : List Int} (R : RowAt K H r sc ns) : SqL K H sc (ns.map V.int) := R.scr H (KeepB.refl _ _)
section
variable {P : Program} {w : World} {K : PySem.W.Frag} {mg : Str → Option Value} {base : Heap}
def spTaken (K : PySem.W.Frag) : Sp := fun vs H Q _ => ∃ (r sc : Addr) (ns : List Int) (m : Nat), vs = [.ref r, .int (m : Nat)] ∧ 1 ≤ m ∧ m ≤ 1000000 ∧ RowAt K H r sc ns ∧ ∀ H' (q : Nat), KeepB r H H' → RowAt K H' r sc ns → q < m → Q (.int (q : Nat)) H'
def nTaken : List Str := ["_law_row", "_law_many", "_law_found", "_law_cell"]
theorem scTaken : FnScope nTaken ["_law_row", "_law_many"] (defScope sTaken) := ⟨rfl, rfl, rfl, by decide +kernel, rfl, by decide +kernel, by decide +kernel⟩
theorem mod_nat (z : Int) {m : Nat} (h : 1 ≤ m) : ∃ q : Nat, z % (m : Int) = (q : Int) ∧ q < m := by
  have h1 := Int.emod_nonneg z (show (m : Int) ≠ 0 by omega)
  have h2 := Int.emod_lt_of_pos z (show (0 : Int) < m by omega)
  exact ⟨(z % (m : Int)).toNat, by omega, by omega⟩
theorem ok_taken {f : Addr} {fd : FuncData} (F : Fun K "_law_taken" "_law_taken" sTaken f fd) (M : Mg mg) : FnOk P w K mg base CX0 1 f fd ["_law_row", "_law_many"] (spTaken K) := by
  refine F.ok scTaken (fun vs H Q E h => ?_) (fun cdv A outer s H vs Q E hr h => ?_)
  · obtain ⟨r, sc, ns, m, rfl, _⟩ := h
    rfl
  · obtain ⟨r, sc, ns, m, rfl, h1, h1000, ⟨⟨a, b, c, hrow⟩, hsc⟩, k⟩ := h
    have nd := scTaken.nd
    refine ⟨_, pss_cons (ps_if (pt_cmpR op_gt (pe_ix ix_list (pv 0) pe_int (fun _ _ => rfl)) pe_int (nomark _))
        (pss_cons (ps_set (i := 2) nd rfl (.inl rfl) (pe_op op_mod (pe_callTy call_int1 (by rfl) M.int boot_tInt (pa_cons (pe_ix ix_list (pv 0) pe_int (fun _ _ => rfl)) pa_nil)) (pv 1)))
        (pss_cons (ps_asg (pe_op op_fdiv (pe_ix ix_list (pv 0) pe_int (fun _ _ => rfl)) (pv 1)) (pg_sub (pv 0) pe_int set_list))
        (pss_one (ps_ret (pv 2))))) pss_nil)
      (pss_cons (ps_asg (pe_op op_add (pe_ix ix_list (pv 0) pe_int (fun _ _ => rfl)) pe_int) (pg_sub (pv 0) pe_int set_list))
      (pss_cons (ps_if (pt_cmpR op_gt (pe_ix ix_list (pv 0) pe_int (fun _ _ => rfl)) (pe_callB call_len_seq (by rfl) M.len boot_len (pa_cons (pe_ix ix_list (pv 0) pe_int (fun _ _ => rfl)) pa_nil)) (nomark _))
        (pss_cons (ps_asg (pe_op op_mod (pe_callTy call_int1 (by rfl) M.int boot_tInt (pa_cons (pe_op op_add (pe_op op_mul (pe_ix ix_list (pv 0) pe_int (fun _ _ => rfl)) pe_int) pe_int) pa_nil)) pe_int) (pg_sub (pv 0) pe_int set_list))
        (pss_one (ps_ret (pe_op op_mod (pe_callTy call_int1 (by rfl) M.int boot_tInt (pa_cons (pe_op op_fdiv (pe_ix ix_list (pv 0) pe_int (fun _ _ => rfl)) pe_int) pa_nil)) (pv 1))))) pss_nil)
      (pss_cons (ps_set (i := 3) nd rfl (.inl rfl) (pe_ix ix_list (pe_ix ix_list (pv 0) pe_int (fun _ _ => rfl)) (pe_op op_sub (pe_ix ix_list (pv 0) pe_int (fun _ _ => rfl)) pe_int) (fun _ _ => rfl)))
      (pss_cons (ps_asg (pe_op op_mod (pe_callTy call_int1 (by rfl) M.int boot_tInt (pa_cons (pe_op op_add (pe_op op_add (pe_op op_mul (pe_ix ix_list (pv 0) pe_int (fun _ _ => rfl)) pe_int) (pv 3)) pe_int) pa_nil)) pe_int) (pg_sub (pv 0) pe_int set_list))
      (pss_cons (ps_if (pt_cmpR op_ge (pv 3) (pe_op op_pow pe_int pe_int) (nomark _)) (pss_one (ps_asg (pe_op op_fdiv (pv 3) (pv 1)) (pg_sub (pv 0) pe_int set_list))) pss_nil)
      (pss_one (ps_ret (pe_op op_mod (pe_callTy call_int1 (by rfl) M.int boot_tInt (pa_cons (pv 3) pa_nil)) (pv 1))))))))), ?_⟩
    have at0 : ∀ (x y z v : V), atI [x, y, z, v] 0 = some x := fun _ _ _ _ => rfl
    have at1 : ∀ (x y z v : V), atI [x, y, z, v] 1 = some y := fun _ _ _ _ => rfl
    have at2 : ∀ (x y z v : V), atI [x, y, z, v] 2 = some z := fun _ _ _ _ => rfl
    have at3 : ∀ (x y z v : V), atI [x, y, z, v] 3 = some v := fun _ _ _ _ => rfl
    have R0 : RowAt K H r sc ns := ⟨⟨a, b, c, hrow⟩, hsc⟩
    have md : ∀ z : Int, ∃ q : Nat, z % ((m : Nat) : Int) = (q : Int) ∧ q < m := fun z => mod_nat z h1
    refine ⟨_, rfl, r, _, 3, _, rfl, rfl, SqL.of hrow, at3 _ _ _ _, _, _, rfl, rfl, _, rfl, ?_⟩
    by_cases hc : 0 < c
    · rw [decide_eq_true hc]
      refine iteT ?_
      obtain ⟨q, eq, hq⟩ := md c
      refine ⟨_, rfl, r, _, 3, _, rfl, rfl, SqL.of hrow, at3 _ _ _ _, .inl ⟨c, rfl, _, rfl, _, _, rfl, rfl, by omega, ?_⟩⟩
      refine ⟨_, rfl, r, _, 3, _, rfl, rfl, SqL.of hrow, at3 _ _ _ _, _, rfl, _, _, rfl, rfl, ⟨by omega, by omega⟩, ?_⟩
      refine ⟨_, rfl, r, _, 3, 3, rfl, rfl, hrow, rfl, ?_⟩
      have z := k _ q (KeepB.upd _) (R0.put a b (c / ((m : Nat) : Int))) hq
      rw [← eq] at z
      exact ⟨_, rfl, z⟩
    · rw [decide_eq_false hc]
      refine iteF ?_
      refine ⟨_, rfl, r, _, 1, _, rfl, rfl, SqL.of hrow, at1 _ _ _ _, _, _, rfl, rfl, ?_⟩
      refine ⟨_, rfl, r, _, 1, 1, rfl, rfl, hrow, rfl, ?_⟩
      have hrow1 : upd H r (.lst ([V.ref sc, .int ((a : Nat) : Int), .int b, .int c].set 1 (.int (((a : Nat) : Int) + 1)))) r = some (.lst [V.ref sc, .int (((a + 1 : Nat)) : Int), .int b, .int c]) := by
        rw [upd_same]
        rfl
      have R1 : RowAt K (upd H r (.lst ([V.ref sc, .int ((a : Nat) : Int), .int b, .int c].set 1 (.int (((a : Nat) : Int) + 1))))) r sc ns := R0.put (a + 1) b c
      have k1 : KeepB r H (upd H r (.lst ([V.ref sc, .int ((a : Nat) : Int), .int b, .int c].set 1 (.int (((a : Nat) : Int) + 1))))) := KeepB.upd _
      show tSeq _ _ _ _ (upd H r (.lst ([V.ref sc, .int ((a : Nat) : Int), .int b, .int c].set 1 (.int (((a : Nat) : Int) + 1)))))
      generalize upd H r (.lst ([V.ref sc, .int ((a : Nat) : Int), .int b, .int c].set 1 (.int (((a : Nat) : Int) + 1)))) = H1 at hrow1 R1 k1 ⊢
      refine ⟨_, rfl, r, _, 1, _, rfl, rfl, SqL.of hrow1, at1 _ _ _ _, _, rfl, r, _, 0, _, rfl, rfl, SqL.of hrow1, at0 _ _ _ _, sc, _, rfl, .inl R1.now, _, _, rfl, rfl, _, rfl, ?_⟩
      by_cases hl : (((ns.map V.int).length : Nat) : Int) < (((a + 1 : Nat)) : Int)
      · rw [decide_eq_true hl]
        refine iteT ?_
        refine ⟨_, rfl, r, _, 2, _, rfl, rfl, SqL.of hrow1, at2 _ _ _ _, _, _, rfl, rfl, .inr ⟨by decide, by decide⟩, _, _, rfl, rfl, .inl ⟨_, rfl, _, _, rfl, rfl, (show (0 : Int) < 2147483647 by decide), ?_⟩⟩
        refine ⟨_, rfl, r, _, 2, 2, rfl, rfl, hrow1, rfl, ?_⟩
        have hrow2 : upd H1 r (.lst ([V.ref sc, .int (((a + 1 : Nat)) : Int), .int b, .int c].set 2 (.int ((b * 48271 + 11) % 2147483647)))) r = some (.lst [V.ref sc, .int (((a + 1 : Nat)) : Int), .int ((b * 48271 + 11) % 2147483647), .int c]) := by
          rw [upd_same]
          rfl
        refine ⟨_, rfl, r, _, 2, _, rfl, rfl, SqL.of hrow2, at2 _ _ _ _, _, _, rfl, rfl, ⟨by decide, by decide⟩, .inl ⟨_, rfl, _, rfl, _, _, rfl, rfl, by omega, ?_⟩⟩
        obtain ⟨q, eq, hq⟩ := md ((b * 48271 + 11) % 2147483647 / 7)
        have z := k _ q (k1.trans (KeepB.upd _)) (R1.put (a + 1) ((b * 48271 + 11) % 2147483647) c) hq
        rw [← eq] at z
        exact z
      · rw [decide_eq_false hl]
        refine iteF ?_
        rw [List.length_map] at hl
        have hal : a < ns.length := by omega
        obtain ⟨cell, hcell⟩ : ∃ z, ns[a]? = some z := ⟨_, List.getElem?_eq_getElem hal⟩
        refine ⟨_, rfl, r, _, 0, _, rfl, rfl, SqL.of hrow1, at0 _ _ _ _, _, rfl, r, _, 1, _, rfl, rfl, SqL.of hrow1, at1 _ _ _ _, _, _, rfl, rfl, sc, _, ((a : Nat) : Int), .int cell, rfl, ?_, R1.now, atI_nat (map_at V.int hcell), ?_⟩
        · show V.int ((((a + 1 : Nat)) : Int) - 1) = V.int ((a : Nat) : Int)
          congr 1
          omega
        refine ⟨_, rfl, r, _, 2, _, rfl, rfl, SqL.of hrow1, at2 _ _ _ _, _, _, rfl, rfl, .inr ⟨by decide, by decide⟩, _, rfl, _, _, rfl, rfl, _, _, rfl, rfl, .inl ⟨_, rfl, _, _, rfl, rfl, (show (0 : Int) < 2147483647 by decide), ?_⟩⟩
        refine ⟨_, rfl, r, _, 2, 2, rfl, rfl, hrow1, rfl, ?_⟩
        have hrow2 : upd H1 r (.lst ([V.ref sc, .int (((a + 1 : Nat)) : Int), .int b, .int c].set 2 (.int ((b * 48271 + cell + 11) % 2147483647)))) r = some (.lst [V.ref sc, .int (((a + 1 : Nat)) : Int), .int ((b * 48271 + cell + 11) % 2147483647), .int c]) := by
          rw [upd_same]
          rfl
        have R2 : RowAt K (upd H1 r (.lst ([V.ref sc, .int (((a + 1 : Nat)) : Int), .int b, .int c].set 2 (.int ((b * 48271 + cell + 11) % 2147483647))))) r sc ns := R1.put (a + 1) _ c
        have k2 := k1.trans (KeepB.upd (r := r) (H := H1) (.lst ([V.ref sc, .int (((a + 1 : Nat)) : Int), .int b, .int c].set 2 (.int ((b * 48271 + cell + 11) % 2147483647)))))
        show tSeq _ _ _ _ (upd H1 r (.lst ([V.ref sc, .int (((a + 1 : Nat)) : Int), .int b, .int c].set 2 (.int ((b * 48271 + cell + 11) % 2147483647)))))
        generalize upd H1 r (.lst ([V.ref sc, .int (((a + 1 : Nat)) : Int), .int b, .int c].set 2 (.int ((b * 48271 + cell + 11) % 2147483647)))) = H2 at hrow2 R2 k2 ⊢
        refine ⟨_, rfl, _, _, rfl, rfl, ⟨by decide, by decide, by decide⟩, _, _, rfl, rfl, _, rfl, ?_⟩
        obtain ⟨q, eq, hq⟩ := md cell
        by_cases hb : (10 : Int) ^ (18 : Int).toNat ≤ cell
        · rw [decide_eq_true hb]
          refine iteT ?_
          refine ⟨_, rfl, _, rfl, _, _, rfl, rfl, ⟨by omega, by omega⟩, ?_⟩
          refine ⟨_, rfl, r, _, 3, 3, rfl, rfl, hrow2, rfl, ?_⟩
          refine ⟨_, rfl, .inl ⟨_, rfl, _, rfl, _, _, rfl, rfl, by omega, ?_⟩⟩
          have z := k _ q (k2.trans (KeepB.upd _)) (R2.put (a + 1) ((b * 48271 + cell + 11) % 2147483647) (cell / ((m : Nat) : Int))) hq
          rw [← eq] at z
          exact z
        · rw [decide_eq_false hb]
          refine iteF ?_
          refine ⟨_, rfl, .inl ⟨_, rfl, _, rfl, _, _, rfl, rfl, by omega, ?_⟩⟩
          have z := k _ q k2 R2 hq
          rw [← eq] at z
          exact z
end
end Sl

set_option Elab.async false
set_option linter.all false
set_option maxRecDepth 100000
set_option maxHeartbeats 1000000
namespace Sl
open PySem PySem.Spec L2 OwnR LamX
/-! ### runs of random units -/
theorem rstep_same (acc : List (Bool × Nat)) (b : Bool) (n : Nat) (h : acc.getLast? = some (b, n)) : rstep acc b = acc.dropLast ++ [(b, n + 1)] := by
  unfold rstep
  rw [h]
  simp
theorem rstep_last (acc : List (Bool × Nat)) (b : Bool) : ∃ n, (rstep acc b).getLast? = some (b, n) := by
  unfold rstep
  split
  · exact ⟨1, rfl⟩
  · rename_i k n h
    split
    · rename_i e
      exact ⟨n + 1, by rw [List.getLast?_append, e]; rfl⟩
    · exact ⟨1, by rw [List.getLast?_append]; rfl⟩
theorem rstep_again (acc : List (Bool × Nat)) (b : Bool) {n : Nat} (h : acc.getLast? = some (b, n)) : (rstep acc b).length = acc.length := by
  rw [rstep_same acc b n h, List.length_append, List.length_dropLast]
  have : acc ≠ [] := fun z => by rw [z] at h; cases h
  have := List.length_pos_iff.mpr this
  simp
  omega
theorem runs_rep (b : Bool) : ∀ (n : Nat) (acc : List (Bool × Nat)) (m : Nat), acc.getLast? = some (b, m) → ((List.replicate n b).foldl rstep acc).length = acc.length
  | 0, acc, m, h => rfl
  | n + 1, acc, m, h => by
    rw [List.replicate_succ, List.foldl_cons]
    obtain ⟨q, hq⟩ := rstep_last acc b
    rw [runs_rep b n _ q hq, rstep_again acc b h]
theorem runsOf_more (bs : List Bool) (b : Bool) (n : Nat) : (runsOf (bs ++ List.replicate n b)).length ≤ (runsOf bs).length + 1 := by
  unfold runsOf
  rw [List.foldl_append]
  generalize List.foldl rstep [] bs = acc
  cases n with
  | zero => simp
  | succ n =>
    rw [List.replicate_succ, List.foldl_cons]
    obtain ⟨q, hq⟩ := rstep_last acc b
    rw [runs_rep b n _ q hq]
    exact rstep_len acc b
theorem runsOf_bound (bs : List Bool) : ∀ s ∈ runsOf bs, 1 ≤ s.2 ∧ s.2 ≤ bs.length := by
  have h : ∀ (l : List Bool) (acc : List (Bool × Nat)) (m : Nat), (∀ s ∈ acc, 1 ≤ s.2 ∧ s.2 ≤ m) → ∀ s ∈ l.foldl rstep acc, 1 ≤ s.2 ∧ s.2 ≤ m + l.length := by
    intro l
    induction l with
    | nil => intro acc m h; simpa using h
    | cons b r ih =>
      intro acc m h s hs
      have h2 : ∀ s ∈ rstep acc b, 1 ≤ s.2 ∧ s.2 ≤ m + 1 := by
        intro s hs
        unfold rstep at hs
        split at hs
        · rw [List.mem_singleton.mp hs]
          exact ⟨Nat.le_refl _, by omega⟩
        · rename_i k n e
          have he := h (k, n) (List.mem_of_getLast? e)
          split at hs
          · rcases List.mem_append.mp hs with hs | hs
            · have := h s ((List.dropLast_sublist acc).subset hs)
              omega
            · rw [List.mem_singleton.mp hs]
              exact ⟨by show 1 ≤ n + 1; omega, by show n + 1 ≤ m + 1; have := he.2; simp at this; omega⟩
          · rcases List.mem_append.mp hs with hs | hs
            · have := h s hs
              omega
            · rw [List.mem_singleton.mp hs]
              exact ⟨Nat.le_refl _, by show 1 ≤ m + 1; omega⟩
      have := ih (rstep acc b) (m + 1) h2 s hs
      rw [List.length_cons]
      omega
  have := h bs [] 0 (fun s hs => nomatch hs)
  simpa [runsOf] using this
theorem runsOf_ne {bs : List Bool} (h : bs ≠ []) : runsOf bs ≠ [] := by
  obtain ⟨r, x, rfl⟩ : ∃ r x, bs = r ++ [x] := ⟨bs.dropLast, bs.getLast h, (List.dropLast_concat_getLast h).symm⟩
  rw [runsOf_snoc]
  intro z
  obtain ⟨n, hn⟩ := rstep_last (runsOf r) x
  rw [z] at hn
  cases hn
theorem secsOk_runs {bs : List Bool} {m : Nat} (h1 : 1 ≤ bs.length) (h2 : bs.length ≤ 99) (h3 : (runsOf bs).length ≤ 12) : SecsOk (runsOf bs) :=
  ⟨runsOf_ne fun z => by rw [z] at h1; simp at h1, h3, fun s hs => let ⟨a, b⟩ := runsOf_bound bs s hs; ⟨a, by omega⟩⟩
section
variable {P : Program} {w : World} {K : PySem.W.Frag} {mg : Str → Option Value} {base : Heap}
end
end Sl

set_option Elab.async false
set_option linter.all false
set_option maxRecDepth 100000
set_option maxHeartbeats 1000000
namespace Sl
open PySem PySem.Spec L2 OwnR LamX
/-! ### data that is compared -/
def Shp (n : Nat) (d : PyData) : Prop := d.canLay0 = true ∧ d.depth ≤ n
theorem Shp.ok {n : Nat} {d : PyData} (h : Shp n d) (hn : n ≤ 64) : SeqAt.shaped d = true := by
  unfold SeqAt.shaped
  rw [h.1, decide_eq_true (Nat.le_trans h.2 hn)]
  rfl
theorem shp_all {n : Nat} : ∀ {ds : List PyData}, (∀ d ∈ ds, Shp n d) → PyData.canLayAll0 ds = true ∧ PyData.depthAll ds ≤ n
  | [], _ => ⟨rfl, Nat.zero_le _⟩
  | d :: ds, h => by
    have h1 := h d List.mem_cons_self
    have h2 := shp_all (ds := ds) fun e he => h e (List.mem_cons_of_mem _ he)
    refine ⟨?_, ?_⟩
    · show (d.canLay0 && PyData.canLayAll0 ds) = true
      rw [h1.1, h2.1]
      rfl
    · show max d.depth (PyData.depthAll ds) ≤ n
      exact Nat.max_le.mpr ⟨h1.2, h2.2⟩
theorem shp_list {n : Nat} {ds : List PyData} (h : ∀ d ∈ ds, Shp n d) : Shp (n + 1) (.list ds) := ⟨(shp_all h).1, Nat.succ_le_succ (shp_all h).2⟩
theorem shp_tuple {n : Nat} {ds : List PyData} (h : ∀ d ∈ ds, Shp n d) : Shp (n + 1) (.tuple ds) := ⟨(shp_all h).1, Nat.succ_le_succ (shp_all h).2⟩
theorem shp_int (i : Int) : Shp 0 (.int i) := ⟨rfl, Nat.le_refl _⟩
theorem shp_non : Shp 0 .none := ⟨rfl, Nat.le_refl _⟩
theorem shp_str {x : Str} (h : PyData.strOk x = true) : Shp 0 (.str x) := ⟨h, Nat.le_refl _⟩
theorem Shp.same {n : Nat} {d : PyData} (h : Shp n d) : PyData.eqv d d = true := SeqAt.eqv_refl d h.1
theorem dp_refs {K : PySem.W.Frag} {H : Hp} {α : Type} (f : α → PyData) : ∀ {as : List Addr} {l : List α}, as.length = l.length → (∀ (i : Nat) (a : Addr) (x : α), as[i]? = some a → l[i]? = some x → Dp K H (.ref a) (f x)) → DpAll K H (as.map V.ref) (l.map f)
  | [], [], _, _ => .nil
  | a :: as, x :: l, hl, h => .cons (h 0 a x rfl rfl) (dp_refs f (by simpa using hl) fun i b y e1 e2 => h (i + 1) b y (by simpa using e1) (by simpa using e2))
theorem dp_vals {K : PySem.W.Frag} {H : Hp} {α : Type} (v : α → V) (f : α → PyData) (h : ∀ x, Dp K H (v x) (f x)) : ∀ (l : List α), DpAll K H (l.map v) (l.map f)
  | [] => .nil
  | x :: l => .cons (h x) (dp_vals v f h l)
/-- sections as data -/
def secD (s : Sec) : PyData := .tuple [.str (kindS s.1), .int (s.2 : Nat)]
def secsD (secs : List Sec) : PyData := .list (secs.map secD)
theorem kind_ok (b : Bool) : PyData.strOk (kindS b) = true := by cases b <;> decide +kernel
theorem shp_secD (s : Sec) : Shp 1 (secD s) := shp_tuple fun d hd => by
  rcases List.mem_cons.mp hd with e | hd
  · rw [e]; exact shp_str (kind_ok _)
  · rw [List.mem_singleton.mp hd]; exact shp_int _
theorem shp_secsD (secs : List Sec) : Shp 2 (secsD secs) := shp_list fun d hd => by
  obtain ⟨s, _, rfl⟩ := List.mem_map.mp hd
  exact shp_secD s
theorem dp_secV {K : PySem.W.Frag} {H : Hp} {t : Addr} {s : Sec} (h : H t = some (.tup (secV s))) : Dp K H (.ref t) (secD s) := .tup (SqT.of h) (.cons (.str _) (.cons (.int _) .nil))
theorem RunsAt.dp {K : PySem.W.Frag} {H : Hp} {a : Addr} {secs : List Sec} (h : RunsAt H a secs) : Dp K H (.ref a) (secsD secs) := by
  obtain ⟨ts, h1, h2, h3⟩ := h
  exact .lst (SqL.of h1) (dp_refs secD h2 fun i b s e1 e2 => dp_secV (h3 i b s e1 e2))
theorem RunsAt.ext {H H' : Hp} {a : Addr} {secs : List Sec} (h : RunsAt H a secs) (e : ExtN H H') : RunsAt H' a secs := by
  obtain ⟨ts, h1, h2, h3⟩ := h
  exact ⟨ts, ExtN.lst e h1, h2, fun i b s e1 e2 => ExtN.tup e (h3 i b s e1 e2)⟩
theorem shp_nil : Shp 1 (.list []) := shp_list fun d hd => nomatch hd
theorem kindS_inj (a b : Bool) : decide (V.str (kindS a) = V.str (kindS b)) = decide (a = b) := by cases a <;> cases b <;> decide +kernel
theorem ixN_last {n m : Nat} (h : n = m + 1) : ixN n (-1) = some m := by
  unfold ixN
  rw [if_neg (by omega), if_pos (by omega)]
  congr 1
  omega
theorem set_last {α : Type} (A : List α) (x v : α) {m : Nat} (h : A.length = m) : (A ++ [x]).set m v = A ++ [v] := by
  subst h
  induction A with
  | nil => rfl
  | cons a r ih => rw [List.cons_append, List.length_cons, List.set_cons_succ, ih]; rfl
theorem kindIf (b : Bool) {σ : L2.St} {H : Hp} {G : V → Hp → Prop} (h : G (.str (kindS b)) H) : if (!b) = true then tC (.str "narrow") σ H G else tC (.str "wide") σ H G := by
  cases b
  · exact h
  · exact h
section
variable {P : Program} {w : World} {K : PySem.W.Frag} {mg : Str → Option Value} {base : Heap}
end
end Sl

set_option Elab.async false
set_option linter.all false
set_option maxRecDepth 100000
set_option maxHeartbeats 1000000
namespace Sl
open PySem PySem.Spec L2 OwnR LamX
/-! ### a list of new tuples -/
def TupsAt (H : Hp) (a : Addr) (vss : List (List V)) : Prop := ∃ ts : List Addr, H a = some (.lst (ts.map V.ref)) ∧ ts.length = vss.length ∧ ∀ (i : Nat) (t : Addr) (v : List V), ts[i]? = some t → vss[i]? = some v → H t = some (.tup v)
theorem tups_push {H : Hp} {a : Addr} {ts : List Addr} {vss : List (List V)} (h1 : H a = some (.lst (ts.map V.ref))) (h2 : ts.length = vss.length) (h3 : ∀ (i : Nat) (t : Addr) (v : List V), ts[i]? = some t → vss[i]? = some v → H t = some (.tup v)) {t : Addr} (ht : H t = none) (v : List V) :
    TupsAt (upd (upd H t (.tup v)) a (.lst (ts.map V.ref ++ [.ref t]))) a (vss ++ [v]) := by
  have nat : a ≠ t := ne_of_none h1 ht
  refine ⟨ts ++ [t], by rw [upd_same, List.map_append]; rfl, by rw [List.length_append, List.length_append, h2]; rfl, fun i b s e1 e2 => ?_⟩
  rcases snoc_get e1 with e1 | ⟨hi2, rfl⟩
  · have hlt := (List.getElem?_eq_some_iff.mp e1).1
    rw [List.getElem?_append_left (by rw [← h2]; exact hlt)] at e2
    have q := h3 i b s e1 e2
    rw [upd_ne (ne_of q h1 (by intro z; cases z)), upd_ne (ne_of_none q ht)]
    exact q
  · rcases snoc_get e2 with e2 | ⟨_, rfl⟩
    · have := (List.getElem?_eq_some_iff.mp e2).1
      omega
    · rw [upd_ne nat.symm, upd_same]
theorem TupsAt.keep {H H' : Hp} {r a : Addr} {vss : List (List V)} {xs : List V} (h : TupsAt H a vss) (k : KeepB r H H') (n : a ≠ r) (hr : H r = some (.lst xs)) : TupsAt H' a vss := by
  obtain ⟨ts, h1, h2, h3⟩ := h
  exact ⟨ts, k _ _ h1 n, h2, fun i t v e1 e2 => k _ _ (h3 i t v e1 e2) (ne_of (h3 i t v e1 e2) hr (by intro z; cases z))⟩
theorem TupsAt.same {H H' : Hp} {a : Addr} {vss : List (List V)} (h : TupsAt H a vss) (k : Same H H') : TupsAt H' a vss := by
  obtain ⟨ts, h1, h2, h3⟩ := h
  exact ⟨ts, k _ _ h1, h2, fun i t v e1 e2 => k _ _ (h3 i t v e1 e2)⟩
theorem tups_nil {H : Hp} {a : Addr} (h : H a = some (.lst [])) : TupsAt H a [] := ⟨[], h, rfl, fun i t v e => by simp at e⟩
end Sl

set_option Elab.async false
set_option linter.all false
set_option maxRecDepth 100000
set_option maxHeartbeats 2000000
/-! Sections drawn, joined, a road of them (the laws k41 to k50). -/
namespace Sl
open PySem PySem.Spec L2 OwnR LamX
theorem newS {H : Hp} {p : Addr} (h : H p = none) (o : HO) : Same H (upd H p o) := fun b x e => by rw [upd_ne (ne_of_none e h)]; exact e
theorem boot_min : bootBuiltins "min" = some (.builtin "min") := by decide +kernel
theorem KeepB.upd_new {r D : Addr} {H0 H : Hp} (k : KeepB r H0 H) (o : HO) (hD : H0 D = none) : KeepB r H0 (L2.upd H D o) := fun b x e n => by rw [upd_ne (ne_of_none e hD)]; exact k _ _ e n
theorem RowAt.lst {K : PySem.W.Frag} {H : Hp} {r sc : Addr} {ns : List Int} (R : RowAt K H r sc ns) : ∃ xs, H r = some (.lst xs) := let ⟨_, _, _, h⟩ := R.at_; ⟨_, h⟩
theorem RowAt.old {K : PySem.W.Frag} {H : Hp} {r sc D : Addr} {ns : List Int} (R : RowAt K H r sc ns) (h : H D = none) : D ≠ r := fun z => by
  obtain ⟨xs, e⟩ := R.lst
  rw [z, e] at h
  cases h
theorem lost {H H' : Hp} {r D : Addr} (k : KeepB r H H') (n : D ≠ r) (h : H' D = none) : H D = none := by
  cases e : H D with
  | none => rfl
  | some o => rw [k _ _ e n] at h; cases h
theorem RowAt.putOff {K : PySem.W.Frag} {H0 H : Hp} {r sc D : Addr} {ns : List Int} (R0 : RowAt K H0 r sc ns) (R : RowAt K H r sc ns) (k : KeepB r H0 H) (o : HO) (hD : H0 D = none) (n : D ≠ r) : RowAt K (upd H D o) r sc ns := by
  obtain ⟨a, b, c, h⟩ := R.at_
  exact ⟨⟨a, b, c, by rw [upd_ne n.symm]; exact h⟩, fun H' k' => R0.scr H' ((k.upd_new o hD).trans k')⟩
/-! ### the mathematics of joined sections -/
def jstep (acc : List Sec) (s : Sec) : List Sec := match acc.getLast? with
  | some (k, n) => if k = s.1 then acc.dropLast ++ [(k, min 99 (n + s.2))] else acc ++ [s]
  | none => [s]
def joinL (secs : List Sec) : List Sec := secs.foldl jstep []
/-- sections no two of which that are side by side are of one kind -/
def AltS : List Sec → Prop
  | [] => True
  | s :: r => (∀ t, r.head? = some t → t.1 ≠ s.1) ∧ AltS r
theorem alt_snoc : ∀ {l : List Sec} {s : Sec}, AltS l → (∀ t, l.getLast? = some t → t.1 ≠ s.1) → AltS (l ++ [s])
  | [], s, _, _ => ⟨fun t z => (nomatch z), True.intro⟩
  | [a], s, _, h => ⟨fun t z => by
      have : s = t := by simpa using z
      subst this
      exact fun e => h a rfl e.symm, ⟨fun t z => (nomatch z), True.intro⟩⟩
  | a :: b :: l, s, h, k => ⟨fun t z => h.1 t (by simpa using z), alt_snoc h.2 fun t z => k t (by rw [List.getLast?_cons_cons]; exact z)⟩
theorem alt_init : ∀ {l : List Sec} {s : Sec}, AltS (l ++ [s]) → AltS l ∧ ∀ t, l.getLast? = some t → t.1 ≠ s.1
  | [], s, _ => ⟨True.intro, fun t z => (nomatch z)⟩
  | [a], s, h => ⟨⟨fun t z => (nomatch z), True.intro⟩, fun t z => by
      have : a = t := by simpa using z
      subst this
      exact fun e => h.1 s rfl e.symm⟩
  | a :: b :: l, s, h => by
    have q := alt_init (l := b :: l) h.2
    exact ⟨⟨fun t z => h.1 t (by simpa using z), q.1⟩, fun t z => q.2 t (by rw [List.getLast?_cons_cons] at z; exact z)⟩
structure JoinOk (acc : List Sec) (m : Nat) : Prop where
  alt : AltS acc
  len : acc.length ≤ m
  bd : ∀ s ∈ acc, 1 ≤ s.2 ∧ s.2 ≤ 99
theorem jstep_ok {acc : List Sec} {m : Nat} {s : Sec} (h : JoinOk acc m) (s1 : 1 ≤ s.2) (s2 : s.2 ≤ 99) : JoinOk (jstep acc s) (m + 1) ∧ jstep acc s ≠ [] := by
  unfold jstep
  split
  · rename_i k n e
    obtain ⟨pre, ep⟩ := List.getLast?_eq_some_iff.mp e
    subst ep
    have q := alt_init h.alt
    have b := h.bd (k, n) (List.mem_append_right _ List.mem_cons_self)
    have hl := h.len
    rw [List.length_append] at hl
    have hl : pre.length + 1 ≤ m := hl
    split
    · rename_i hk
      rw [List.dropLast_concat]
      refine ⟨⟨alt_snoc q.1 q.2, by rw [List.length_append]; show pre.length + 1 ≤ m + 1; omega, fun t ht => ?_⟩, by simp⟩
      rcases List.mem_append.mp ht with z | z
      · exact h.bd t (List.mem_append_left _ z)
      · rw [List.mem_singleton.mp z]
        have b1 : 1 ≤ n := b.1
        show 1 ≤ min 99 (n + s.2) ∧ min 99 (n + s.2) ≤ 99
        omega
    · rename_i hk
      refine ⟨⟨alt_snoc h.alt fun t z => ?_, by rw [List.length_append, List.length_append]; show pre.length + 1 + 1 ≤ m + 1; omega, fun t ht => ?_⟩, by simp⟩
      · have : t = (k, n) := by rw [e] at z; exact (Option.some.inj z).symm
        rw [this]
        exact hk
      · rcases List.mem_append.mp ht with z | z
        · exact h.bd t z
        · rw [List.mem_singleton.mp z]
          exact ⟨s1, s2⟩
  · refine ⟨⟨⟨fun t z => (nomatch z), True.intro⟩, by show 1 ≤ m + 1; omega, fun t ht => ?_⟩, by simp⟩
    rw [List.mem_singleton.mp ht]
    exact ⟨s1, s2⟩
theorem foldj_ok : ∀ (l acc : List Sec) (m : Nat), JoinOk acc m → (∀ s ∈ l, 1 ≤ s.2 ∧ s.2 ≤ 99) → (acc ≠ [] ∨ l ≠ []) → JoinOk (l.foldl jstep acc) (m + l.length) ∧ l.foldl jstep acc ≠ []
  | [], acc, m, h, _, n => ⟨h, n.resolve_right fun z => z rfl⟩
  | s :: l, acc, m, h, b, _ => by
    have q := jstep_ok h (b s List.mem_cons_self).1 (b s List.mem_cons_self).2
    have := foldj_ok l (jstep acc s) (m + 1) q.1 (fun t ht => b t (List.mem_cons_of_mem _ ht)) (.inl q.2)
    rw [List.length_cons, show m + (l.length + 1) = m + 1 + l.length by omega]
    exact this
theorem joinL_ok {secs : List Sec} (b : ∀ s ∈ secs, 1 ≤ s.2 ∧ s.2 ≤ 99) (n : secs ≠ []) : JoinOk (joinL secs) secs.length ∧ joinL secs ≠ [] := by
  have := foldj_ok secs [] 0 ⟨True.intro, Nat.le_refl _, fun s z => (nomatch z)⟩ b (.inr n)
  rw [Nat.zero_add] at this
  exact this
theorem joinL_snoc (l : List Sec) (s : Sec) : joinL (l ++ [s]) = jstep (joinL l) s := by
  unfold joinL
  rw [List.foldl_append]
  rfl
/-- the units of sections -/
def bitsL (secs : List Sec) : List Bool := secs.flatMap fun s => List.replicate s.2 s.1
theorem rstep_rep (b : Bool) : ∀ (n m : Nat) (pre : List (Bool × Nat)), (List.replicate n b).foldl rstep (pre ++ [(b, m)]) = pre ++ [(b, m + n)]
  | 0, _, _ => rfl
  | n + 1, m, pre => by
    rw [List.replicate_succ, List.foldl_cons, rstep_same _ b m (by rw [List.getLast?_append]; rfl), List.dropLast_concat, rstep_rep b n (m + 1) pre, show m + 1 + n = m + (n + 1) by omega]
theorem rstep_new {acc : List (Bool × Nat)} {b : Bool} (h : ∀ t, acc.getLast? = some t → t.1 ≠ b) : rstep acc b = acc ++ [(b, 1)] := by
  unfold rstep
  split
  · rename_i e
    rw [List.getLast?_eq_none_iff.mp e]
    rfl
  · rename_i k n e
    rw [if_neg (h (k, n) e)]
theorem runs_bits_go : ∀ (l pre : List Sec), AltS (pre ++ l) → (∀ s ∈ l, 1 ≤ s.2) → (bitsL l).foldl rstep pre = pre ++ l
  | [], pre, _, _ => by rw [List.append_nil]; rfl
  | s :: l, pre, h, b => by
    have e1 : pre ++ s :: l = (pre ++ [s]) ++ l := by rw [List.append_assoc]; rfl
    have hs : AltS (pre ++ [s]) := by
      clear b
      induction pre with
      | nil => exact ⟨fun t z => (nomatch z), True.intro⟩
      | cons a r ih =>
        refine ⟨fun t z => ?_, ih h.2 (by rw [List.append_assoc]; rfl)⟩
        refine h.1 t ?_
        cases r with
        | nil => exact z
        | cons _ _ => exact z
    have q := (alt_init hs).2
    obtain ⟨n, hn⟩ : ∃ n, s.2 = n + 1 := ⟨s.2 - 1, by have := b s List.mem_cons_self; omega⟩
    have eb : bitsL (s :: l) = List.replicate (n + 1) s.1 ++ bitsL l := by
      show List.replicate s.2 s.1 ++ bitsL l = _
      rw [hn]
    rw [eb, List.foldl_append, List.replicate_succ, List.foldl_cons, rstep_new q, rstep_rep]
    have es : (s.1, 1 + n) = s := by rw [show 1 + n = s.2 by omega]
    rw [es, runs_bits_go l (pre ++ [s]) (by rw [← e1]; exact h) (fun t ht => b t (List.mem_cons_of_mem _ ht)), ← e1]
theorem runs_bits {secs : List Sec} (h : AltS secs) (b : ∀ s ∈ secs, 1 ≤ s.2) : runsOf (bitsL secs) = secs := runs_bits_go secs [] h b
theorem bits_len (secs : List Sec) : ∀ (q : Nat), (∀ s ∈ secs, s.2 ≤ 99) → secs.length ≤ q → (bitsL secs).length ≤ 99 * q := by
  induction secs with
  | nil => intro q _ _; exact Nat.zero_le _
  | cons s l ih =>
    intro q h hl
    have hl : l.length + 1 ≤ q := hl
    have := ih (q - 1) (fun t ht => h t (List.mem_cons_of_mem _ ht)) (by omega)
    have h1 := h s List.mem_cons_self
    show (List.replicate s.2 s.1 ++ bitsL l).length ≤ _
    rw [List.length_append, List.length_replicate]
    omega
section
variable {P : Program} {w : World} {K : PySem.W.Frag} {mg : Str → Option Value} {base : Heap}
/-! ### _law_sections -/
def spSectC (K : PySem.W.Frag) : Sp := fun vs H Q _ => ∃ (r sc : Addr) (ns : List Int) (m : Nat), vs = [.ref r, .int (m : Nat)] ∧ 1 ≤ m ∧ m ≤ 12 ∧ RowAt K H r sc ns ∧
  ∀ H' a secs, KeepB r H H' → RowAt K H' r sc ns → SecsAt H' a secs → 1 ≤ secs.length → secs.length ≤ m → (∀ s ∈ secs, 1 ≤ s.2 ∧ s.2 ≤ 40) → Q (.ref a) H'
def nSectC : List Str := ["_law_row", "_law_most", "_law_found", "_law_k", "_law_kind"]
theorem scSectC : FnScope nSectC ["_law_row", "_law_most"] (defScope sSections) := ⟨rfl, rfl, rfl, by decide +kernel, rfl, by decide +kernel, by decide +kernel⟩
theorem kind3 {q : Nat} (h : q < 3) : ∃ b : Bool, atI [V.str "narrow", V.str "wide", V.str "narrow"] ((q : Nat) : Int) = some (V.str (kindS b)) := by
  have : q = 0 ∨ q = 1 ∨ q = 2 := by omega
  rcases this with z | z | z
  · exact ⟨false, by rw [z]; rfl⟩
  · exact ⟨true, by rw [z]; rfl⟩
  · exact ⟨false, by rw [z]; rfl⟩
theorem many3 {q : Nat} {a b c : Nat} (h : q < 3) : ∃ m : Nat, (m = a ∨ m = b ∨ m = c) ∧ atI [V.int ((a : Nat) : Int), V.int ((b : Nat) : Int), V.int ((c : Nat) : Int)] ((q : Nat) : Int) = some (V.int ((m : Nat) : Int)) := by
  have : q = 0 ∨ q = 1 ∨ q = 2 := by omega
  rcases this with z | z | z
  · exact ⟨a, .inl rfl, by rw [z]; rfl⟩
  · exact ⟨b, .inr (.inl rfl), by rw [z]; rfl⟩
  · exact ⟨c, .inr (.inr rfl), by rw [z]; rfl⟩
theorem ok_sectC {f fT : Addr} {fd dT : FuncData} (F : Fun K "_law_sections" "_law_sections" sSections f fd) (M : Mg mg) (BT : Fb K mg "_law_taken" sTaken ["_law_row", "_law_many"] fT dT)
    (GT : FnOk P w K mg base CX0 1 fT dT ["_law_row", "_law_many"] (spTaken K)) : FnOk P w K mg base CX0 2 f fd ["_law_row", "_law_most"] (spSectC K) := by
  refine F.ok scSectC (fun vs H Q E h => ?_) (fun cdv A outer s H vs Q E hr h => ?_)
  · obtain ⟨r, sc, ns, m, rfl, _⟩ := h
    rfl
  · obtain ⟨r, sc, ns, m, rfl, m1, m12, R0, k⟩ := h
    have nd := scSectC.nd
    refine ⟨_, (pss_cons (ps_set (i := 2) nd rfl (.inl rfl) (pe_lst pa_nil)) (pss_cons (ps_for PassesOwn.never rfl (pi_range1 (by rfl) M.range (pa_cons (pe_op op_add pe_int (pe_call GT hr (by rfl) BT.at_ BT.fn.kp BT.bd .nil pass0 (pa_cons (pv 0) (pa_cons (pv 1) pa_nil)))) pa_nil)) (pg_name (i := 3) nd rfl (.inl rfl)) (pss_cons (ps_set (i := 4) nd rfl (.inl rfl) (pe_ix ix_list (pe_lst (pa_cons pe_str (pa_cons pe_str (pa_cons pe_str pa_nil)))) (pe_call GT hr (by rfl) BT.at_ BT.fn.kp BT.bd .nil pass0 (pa_cons (pv 0) (pa_cons pe_int pa_nil))) (fun _ _ => rfl))) (pss_one (ps_expr (pe_bm PySem.F.plainAttrs_list PySem.F.slot_list_append PySem.F.type_list_append mt_append (pv 2) (pa_cons (pe_tup (pa_cons (pv 4) (pa_cons (pe_op op_add pe_int (pe_call GT hr (by rfl) BT.at_ BT.fn.kp BT.bd .nil pass0 (pa_cons (pv 0) (pa_cons (pe_ix ix_list (pe_lst (pa_cons pe_int (pa_cons pe_int (pa_cons pe_int pa_nil)))) (pe_call GT hr (by rfl) BT.at_ BT.fn.kp BT.bd .nil pass0 (pa_cons (pv 0) (pa_cons pe_int pa_nil))) (fun _ _ => rfl)) pa_nil)))) pa_nil))) pa_nil)))))) (pss_one (ps_ret (pe_callTy call_tuple_of (by rfl) M.tuple boot_tTuple (pa_cons (pv 2) pa_nil)))))), ?_⟩
    refine ⟨Nat.zero_le _, fun L hL => ?_⟩
    have nLr := R0.old hL
    have S0 : Same H (upd H L (.lst [])) := fun b o e => by rw [upd_ne (ne_of_none e hL)]; exact e
    refine ⟨_, rfl, _, rfl, r, sc, ns, m, rfl, by omega, by omega, R0.same S0, fun H1 q k1 R1 hq => ?_⟩
    have hL1 : H1 L = some (.lst []) := k1 _ _ upd_same nLr
    refine ⟨_, _, rfl, rfl, (1 + ((q : Nat) : Int)), rfl, by omega, by omega, ?_⟩
    have en : (1 + ((q : Nat) : Int)).toNat = q + 1 := by omega
    rw [en]
    refine for_it walk_range (fun i σ H2 => ∃ (secs : List Sec) (v3 v4 : Option V), σ = [some (.ref r), some (.int ((m : Nat) : Int)), some (.ref L), v3, v4] ∧ KeepB r H H2 ∧ RowAt K H2 r sc ns ∧ TupsAt H2 L (secs.map secV) ∧ secs.length = i ∧ ∀ s ∈ secs, 1 ≤ s.2 ∧ s.2 ≤ 40)
      ⟨[], none, none, rfl, (KeepB.of S0).trans k1, R1, tups_nil hL1, rfl, fun s z => (nomatch z)⟩ (fun _ _ _ _ _ => True.intro) ?_ ?_
    · rintro i x σ H2 H3 hi ⟨secs, v3, v4, rfl, k2, R2, T2, hlen, hd⟩ ⟨e, ex⟩
      subst e
      refine ⟨by show 3 ≤ sizeLine; decide, fun l hl => ?_⟩
      have nlr := R2.old hl
      have s3 := newS hl (.lst [V.str "narrow", V.str "wide", V.str "narrow"])
      obtain ⟨xr, hxr⟩ := R2.lst
      have T3 := T2.same s3
      refine ⟨_, rfl, r, sc, ns, 3, rfl, by omega, by omega, R2.same s3, fun H4 q1 k4 R4 hq1 => ?_⟩
      have hl4 : H4 l = some (.lst [V.str "narrow", V.str "wide", V.str "narrow"]) := k4 _ _ upd_same nlr
      obtain ⟨b, hb⟩ := kind3 hq1
      refine ⟨l, _, _, _, rfl, rfl, SqL.of hl4, hb, ?_⟩
      have T4 := T3.keep k4 nLr (s3 _ _ hxr)
      have k24 := k2.trans ((KeepB.of s3).trans k4)
      obtain ⟨ts, t1, t2, t3⟩ := id T4
      refine ⟨_, rfl, .inl ⟨rfl, _, SqL.of t1⟩, _, rfl, _, rfl, by show 3 ≤ sizeLine; decide, fun l2 hl2 => ?_⟩
      have nl2r := R4.old hl2
      have s5 := newS hl2 (.lst [V.int ((4 : Nat) : Int), V.int ((12 : Nat) : Int), V.int ((40 : Nat) : Int)])
      obtain ⟨xr4, hxr4⟩ := R4.lst
      have T5 := T4.same s5
      refine ⟨_, rfl, r, sc, ns, 3, rfl, by omega, by omega, R4.same s5, fun H6 q2 k6 R6 hq2 => ?_⟩
      have hl6 : H6 l2 = some (.lst [V.int ((4 : Nat) : Int), V.int ((12 : Nat) : Int), V.int ((40 : Nat) : Int)]) := k6 _ _ upd_same nl2r
      have T6 := T5.keep k6 nLr (s5 _ _ hxr4)
      obtain ⟨m2, hm2, hat2⟩ := many3 (a := 4) (b := 12) (c := 40) hq2
      obtain ⟨xr6, hxr6⟩ := R6.lst
      refine ⟨l2, _, _, _, rfl, rfl, SqL.of hl6, hat2, r, sc, ns, m2, rfl, by omega, by omega, R6, fun H7 q3 k7 R7 hq3 => ?_⟩
      obtain ⟨ts7, z1, z2, z3⟩ := T6.keep k7 nLr hxr6
      have k27 := k24.trans ((KeepB.of s5).trans (k6.trans k7))
      refine ⟨_, _, rfl, rfl, by show 2 ≤ sizeLine; decide, fun t ht => ?_⟩
      have nLt : L ≠ t := ne_of_none z1 ht
      refine ⟨L, _, .ref t, rfl, rfl, by rw [upd_ne nLt]; exact z1, by rw [List.length_map, z2, List.length_map, hlen]; exact small1000 (by omega), ?_⟩
      have hup := newS ht (.tup [V.str (kindS b), V.int (1 + ((q3 : Nat) : Int))])
      have k28 := k27.trans (KeepB.of hup)
      refine ⟨secs ++ [(b, 1 + q3)], _, _, rfl, k28.upd_new _ hL, R0.putOff (R7.same hup) k28 _ hL nLr, ?_, by rw [List.length_append, hlen]; rfl, fun s hs => ?_⟩
      · have := tups_push z1 z2 z3 ht (secV (b, 1 + q3))
        rw [List.map_append]
        have e3 : secV (b, 1 + q3) = [V.str (kindS b), V.int (1 + ((q3 : Nat) : Int))] := by
          show [V.str (kindS b), V.int (((1 + q3 : Nat)) : Int)] = _
          rw [show (((1 + q3 : Nat)) : Int) = 1 + ((q3 : Nat) : Int) by omega]
        rw [← e3]
        exact this
      · rcases List.mem_append.mp hs with z | z
        · exact hd s z
        · rw [List.mem_singleton.mp z]
          show 1 ≤ 1 + q3 ∧ 1 + q3 ≤ 40
          omega
    · rintro σ H2 ⟨secs, v3, v4, rfl, k2, R2, ⟨ts, t1, t2, t3⟩, hlen, hd⟩
      refine ⟨_, rfl, L, _, rfl, .inl ⟨SqL.of t1, fun t ht => ?_⟩⟩
      have s3 := newS ht (.tup (ts.map V.ref))
      exact k _ t secs (k2.trans (KeepB.of s3)) (R2.same s3) ⟨ts, upd_same, by rw [t2, List.length_map], fun i a c e1 e2 => s3 _ _ (t3 i a (secV c) e1 (by rw [List.getElem?_map, e2]; rfl))⟩ (by omega) (by omega) hd
/-! ### _law_joined -/
def spJoined : Sp := fun vs H Q _ => ∃ (a : Addr) (secs : List Sec), vs = [.ref a] ∧ SecsAt H a secs ∧ secs.length ≤ 100 ∧ ∀ H' b, Same H H' → SecsAt H' b (joinL secs) → Q (.ref b) H'
def nJoined : List Str := ["_law_sections_here", "_law_found", "_law_kind", "_law_length"]
theorem scJoined : FnScope nJoined ["_law_sections_here"] (defScope sJoined) := ⟨rfl, rfl, rfl, by decide +kernel, rfl, by decide +kernel, by decide +kernel⟩
theorem jstep_len (acc : List Sec) (s : Sec) : (jstep acc s).length ≤ acc.length + 1 := by
  unfold jstep
  split
  · split
    · rw [List.length_append, List.length_dropLast]
      show _ - 1 + 1 ≤ _
      omega
    · rw [List.length_append]
      exact Nat.le_refl _
  · show 1 ≤ _
    omega
theorem joinL_len : ∀ (l acc : List Sec), (l.foldl jstep acc).length ≤ acc.length + l.length
  | [], _ => Nat.le_refl _
  | s :: l, acc => by
    have := joinL_len l (jstep acc s)
    have := jstep_len acc s
    rw [List.foldl_cons, List.length_cons]
    omega
theorem ok_joined {f : Addr} {fd : FuncData} (F : Fun K "_law_joined" "_law_joined" sJoined f fd) (M : Mg mg) (mmn : mg "min" = none) : FnOk P w K mg base CX0 1 f fd ["_law_sections_here"] spJoined := by
  refine F.ok scJoined (fun vs H Q E h => ?_) (fun cdv A outer s H vs Q E hr h => ?_)
  · obtain ⟨a, secs, rfl, _⟩ := h
    rfl
  · obtain ⟨a, secs, rfl, ⟨us, h1, h2, h3⟩, h100, k⟩ := h
    have nd := scJoined.nd
    have hu64 := hr.units
    refine ⟨_, (pss_cons (ps_set (i := 1) nd rfl (.inl rfl) (pe_lst pa_nil)) (pss_cons (ps_for PassesOwn.never rfl (pi_tup (pv 0)) (pg_tup rfl (pgs_cons (pg_name (i := 2) nd rfl (.inl rfl)) (pgs_cons (pg_name (i := 3) nd rfl (.inl rfl)) pgs_nil))) (pss_one (ps_if (PW.pt (pw_and (pt_cmpR (op_neD hu64) (pv 1) (pe_lst pa_nil) (nomark _)) (pw_and1 (pt_cmpR op_eq (pe_ix ix_tup (pe_ix ix_list (pv 1) (pe_un un_neg pe_int) (fun _ _ => rfl)) pe_int (fun _ _ => rfl)) (pv 2) (nomark _))))) (pss_one (ps_asg (pe_tup (pa_cons (pv 2) (pa_cons (pe_callB (call_min2 rfl) (by rfl) mmn boot_min (pa_cons pe_int (pa_cons (pe_op op_add (pe_ix ix_tup (pe_ix ix_list (pv 1) (pe_un un_neg pe_int) (fun _ _ => rfl)) pe_int (fun _ _ => rfl)) (pv 3)) pa_nil))) pa_nil))) (pg_sub (pv 1) (pe_un un_neg pe_int) set_list))) (pss_one (ps_expr (pe_bm PySem.F.plainAttrs_list PySem.F.slot_list_append PySem.F.type_list_append mt_append (pv 1) (pa_cons (pe_tup (pa_cons (pv 2) (pa_cons (pv 3) pa_nil))) pa_nil))))))) (pss_one (ps_ret (pe_callTy call_tuple_of (by rfl) M.tuple boot_tTuple (pa_cons (pv 1) pa_nil)))))), ?_⟩
    refine ⟨Nat.zero_le _, fun L hL => ?_⟩
    have hl : (us.map V.ref).length = secs.length := by rw [List.length_map, h2]
    refine ⟨_, rfl, a, rfl, ⟨_, SqT.of (newS hL (.lst []) _ _ h1)⟩, for_it walk_tup (fun i σ H1 => ∃ v2 v3, σ = [some (.ref a), some (.ref L), v2, v3] ∧ Same H H1 ∧ RunsAt H1 L (joinL (secs.take i)))
      ⟨none, none, rfl, newS hL _, [], upd_same, rfl, fun j a s e => by simp at e⟩ (fun _ _ _ _ ⟨_, _, _, k1, _⟩ => SqT.of (k1 _ _ h1)) ?_ ?_⟩
    · rintro i x σ H1 H2 hi ⟨v2, v3, rfl, s1, I⟩ ⟨e, hx⟩
      subst e
      rw [hl] at hi
      obtain ⟨t0', hu0, rfl⟩ : ∃ t, us[i]? = some t ∧ x = V.ref t := by
        rw [List.getElem?_map] at hx
        obtain ⟨t, z1, z2⟩ := Option.map_eq_some_iff.mp hx
        exact ⟨t, z1, z2.symm⟩
      obtain ⟨s, hs⟩ : ∃ s, secs[i]? = some s := ⟨_, List.getElem?_eq_getElem hi⟩
      obtain ⟨b, n0⟩ := s
      have htv0 := s1 _ _ (h3 i t0' (b, n0) hu0 hs)
      rw [tk1 hs, joinL_snoc]
      have hlen2 : (joinL (secs.take i)).length ≤ 100 := Nat.le_trans (joinL_len _ _) (by rw [List.length_take]; show 0 + _ ≤ 100; omega)
      generalize joinL (secs.take i) = acc at *
      refine ⟨t0', _, rfl, SqT.of htv0, rfl, _, _, rfl, _, _, rfl, rfl, ?_⟩
      obtain ⟨ts, hL2, hts, htv⟩ := I
      refine ⟨_, rfl, Nat.zero_le _, fun e he => ?_⟩
      have nLe : L ≠ e := ne_of_none hL2 he
      have s3 := newS he (.lst [])
      have I3 : RunsAt (upd H2 e (.lst [])) L acc := ⟨ts, s3 _ _ hL2, hts, fun i t s e1 e2 => s3 _ _ (htv i t s e1 e2)⟩
      have hL3 := s3 _ _ hL2
      have s03 := s1.trans s3
      have h3 : ∀ (i : Nat) (t : Addr) (s : Sec), ts[i]? = some t → acc[i]? = some s → upd H2 e (.lst []) t = some (.tup (secV s)) := fun i t s e1 e2 => s3 _ _ (htv i t s e1 e2)
      refine ⟨secsD acc, .list [], I3.dp, .lst (SqL.of upd_same) .nil, (shp_secsD acc).ok (by decide), shp_nil.ok (by decide), ?_⟩
      have happ : ∀ (H4 : Hp) (t : Addr), Same (upd H2 e (.lst [])) H4 → H4 t = none → RunsAt (upd (upd H4 t (.tup (secV (b, n0)))) L (.lst (ts.map V.ref ++ [.ref t]))) L (acc ++ [(b, n0)]) := fun H4 t s4 ht => by
        have nLt : L ≠ t := ne_of_none (s4 _ _ hL3) ht
        refine ⟨ts ++ [t], by rw [upd_same, List.map_append]; rfl, by rw [List.length_append, List.length_append, hts]; rfl, fun i a s e1 e2 => ?_⟩
        rcases snoc_get e1 with e1 | ⟨hi2, rfl⟩
        · have hlt := (List.getElem?_eq_some_iff.mp e1).1
          rw [List.getElem?_append_left (by rw [← hts]; exact hlt)] at e2
          have q := s4 _ _ (h3 i a s e1 e2)
          rw [upd_ne (ne_of q (s4 _ _ hL3) (by intro z; cases z)), upd_ne (ne_of_none q ht)]
          exact q
        · rcases snoc_get e2 with e2 | ⟨_, rfl⟩
          · have := (List.getElem?_eq_some_iff.mp e2).1
            omega
          · rw [upd_ne nLt.symm, upd_same]
      cases hl : acc.getLast? with
      | none =>
        have ea : acc = [] := List.getLast?_eq_none_iff.mp hl
        subst ea
        have er : jstep [] (b, n0) = [(b, n0)] := rfl
        rw [er]
        refine ⟨_, rfl, iteF ?_⟩
        refine iteF ?_
        refine ⟨_, rfl, .inl ⟨rfl, _, SqL.of hL3⟩, _, rfl, _, rfl, by show 2 ≤ sizeLine; decide, fun t ht => ?_⟩
        have nLt : L ≠ t := ne_of_none hL3 ht
        refine ⟨L, _, .ref t, rfl, rfl, by rw [upd_ne nLt]; exact hL3, by rw [List.length_map, hts]; exact small1000 (by simp), ?_⟩
        refine ⟨_, _, rfl, fun b' o e' => ?_, happ _ t (fun _ _ z => z) ht⟩
        rw [upd_ne (ne_of_none e' hL), upd_ne (ne_of_none (s03 _ _ e') ht)]
        exact s03 _ _ e'
      | some r =>
        obtain ⟨k', n⟩ := r
        obtain ⟨acc', ea⟩ := List.getLast?_eq_some_iff.mp hl
        subst ea
        obtain ⟨ts', t0, ets, hl'⟩ := snoc_of (l := ts) (m := acc'.length) (by rw [hts]; simp)
        subst ets
        have hL4 : upd H2 e (.lst []) L = some (.lst (ts'.map V.ref ++ [V.ref t0])) := by rw [hL3, List.map_append]; rfl
        have ht0 := h3 acc'.length t0 (k', n) (by rw [← hl']; simp) (by simp)
        refine ⟨_, rfl, ?_⟩
        rw [show (!PyData.eqv (secsD (acc' ++ [(k', n)])) (.list [])) = true by cases acc' <;> rfl]
        refine iteT ?_
        refine ⟨_, rfl, _, rfl, L, _, _, .ref t0, rfl, rfl, SqL.of hL4, atI_last _ _, t0, _, _, _, rfl, rfl, SqT.of ht0, rfl, _, rfl, rfl, _, rfl, ?_⟩
        rw [kindS_inj]
        by_cases hk : k' = b
        · rw [decide_eq_true hk]
          refine iteT ?_
          have er : jstep (acc' ++ [(k', n)]) (b, n0) = acc' ++ [(k', min 99 (n + n0))] := by
            unfold jstep
            rw [hl]
            simp [hk]
          rw [er]
          refine ⟨_, rfl, _, rfl, _, rfl, L, _, _, .ref t0, rfl, rfl, SqL.of hL4, atI_last _ _, t0, _, _, _, rfl, rfl, SqT.of ht0, rfl, _, rfl, _, _, rfl, rfl, _, _, rfl, ?_⟩
          have emin : (if ((n : Nat) : Int) + ((n0 : Nat) : Int) < 99 then ((n : Nat) : Int) + ((n0 : Nat) : Int) else 99) = ((min 99 (n + n0) : Nat) : Int) := by
            split <;> omega
          refine ⟨by show 2 ≤ sizeLine; decide, fun t ht => ?_⟩
          have nLt : L ≠ t := ne_of_none hL3 ht
          refine ⟨_, rfl, _, rfl, L, _, _, ts'.length, rfl, rfl, by rw [upd_ne nLt]; exact hL4, ixN_last (by simp), ?_⟩
          rw [set_last _ _ _ (by simp)]
          refine ⟨_, _, rfl, fun b' o e' => ?_, ts' ++ [t], by rw [upd_same, List.map_append]; rfl, by simp [hl'], fun i a s e1 e2 => ?_⟩
          · rw [upd_ne (ne_of_none e' hL), upd_ne (ne_of_none (s03 _ _ e') ht)]
            exact s03 _ _ e'
          · rcases snoc_get e1 with e1 | ⟨hi2, rfl⟩
            · have hlt := (List.getElem?_eq_some_iff.mp e1).1
              rw [List.getElem?_append_left (by rw [← hl']; exact hlt)] at e2
              have q := h3 i a s (by rw [List.getElem?_append_left hlt]; exact e1) (by rw [List.getElem?_append_left (by rw [← hl']; exact hlt)]; exact e2)
              rw [upd_ne (ne_of q hL3 (by intro z; cases z)), upd_ne (ne_of_none q ht)]
              exact q
            · rcases snoc_get e2 with e2 | ⟨_, rfl⟩
              · have := (List.getElem?_eq_some_iff.mp e2).1
                omega
              · rw [upd_ne nLt.symm, upd_same, hk, emin]
                rfl
        · rw [decide_eq_false hk]
          refine iteF ?_
          have er : jstep (acc' ++ [(k', n)]) (b, n0) = acc' ++ [(k', n)] ++ [(b, n0)] := by
            unfold jstep
            rw [hl]
            simp [hk]
          rw [er]
          refine ⟨_, rfl, .inl ⟨rfl, _, SqL.of hL3⟩, _, rfl, _, rfl, by show 2 ≤ sizeLine; decide, fun t ht => ?_⟩
          have nLt : L ≠ t := ne_of_none hL3 ht
          refine ⟨L, _, .ref t, rfl, rfl, by rw [upd_ne nLt]; exact hL3, by rw [List.length_map, hts]; exact small1000 (by omega), ?_⟩
          refine ⟨_, _, rfl, fun b' o e' => ?_, happ _ t (fun _ _ z => z) ht⟩
          rw [upd_ne (ne_of_none e' hL), upd_ne (ne_of_none (s03 _ _ e') ht)]
          exact s03 _ _ e'
    · rintro σ H1 ⟨v2, v3, rfl, s1, I⟩
      rw [hl, List.take_length] at I
      obtain ⟨ts, i1, i2, i3⟩ := I
      refine ⟨_, rfl, L, _, rfl, .inl ⟨SqL.of i1, fun t ht => ?_⟩⟩
      have s3 := newS ht (.tup (ts.map V.ref))
      exact k _ t (s1.trans s3) ⟨ts, upd_same, i2, fun i a c e1 e2 => s3 _ _ (i3 i a c e1 e2)⟩
/-! ### _law_road -/
def spRoadC (CR : Addr) : Sp := fun vs H Q _ => ∃ (a : Addr) (secs : List Sec), vs = [.ref a] ∧ SecsAt H a secs ∧ AltS secs ∧ SecsOk secs ∧ secs.length ≤ 10 ∧ ∀ H' p, Same H H' → H p = none → RoadAt CR H' p secs → Q (.ref p) H'
def nRoadC : List Str := ["_law_sections_here", "_law_units", "_law_kind", "_law_length"]
theorem scRoadC : FnScope nRoadC ["_law_sections_here"] (defScope sLRoad) := ⟨rfl, rfl, rfl, by decide +kernel, rfl, by decide +kernel, by decide +kernel⟩
theorem bits_snoc (l : List Sec) (s : Sec) : bitsL (l ++ [s]) = bitsL l ++ List.replicate s.2 s.1 := by
  unfold bitsL
  rw [List.flatMap_append]
  simp
theorem kind_at (b : Bool) : atI ((kindS b).cps.toList) 0 = some (letterC b) := by cases b <;> decide +kernel
theorem ok_roadC {f fO CR lp kp pO : Addr} {fd dO : FuncData} {mc : Value} (F : Fun K "_law_road" "_law_road" sLRoad f fd) (RR : RoadT K w mg CR lp kp)
    (cr : ClX.CRead K CR mc) (cm : ClX.CMet K CR mc "of_units" pO fO) (bO : Binds K dO ["cls", "units"] []) (GO : FnOk P w K mg base CX0 5 fO dO ["cls", "units"] (spOfUnits CR)) : FnOk P w K mg base CX0 6 f fd ["_law_sections_here"] (spRoadC CR) := by
  refine F.ok scRoadC (fun vs H Q E h => ?_) (fun cdv A outer s H vs Q E hr h => ?_)
  · obtain ⟨a, secs, rfl, _⟩ := h
    rfl
  · obtain ⟨a, secs, rfl, ⟨us, h1, h2, h3⟩, hA, SO, h10, k⟩ := h
    have nd := scRoadC.nd
    refine ⟨_, (pss_cons (ps_set (i := 1) nd rfl (.inl rfl) pe_str) (pss_cons (ps_for PassesOwn.never rfl (pi_tup (pv 0)) (pg_tup rfl (pgs_cons (pg_name (i := 2) nd rfl (.inl rfl)) (pgs_cons (pg_name (i := 3) nd rfl (.inl rfl)) pgs_nil))) (pss_one (ps_set (i := 1) nd rfl (.inl rfl) (pe_op op_add_str (pv 1) (pe_op op_repS (pe_ix ix_str (pv 2) pe_int (fun _ _ => rfl)) (pv 3)))))) (pss_one (ps_ret (ClX.pe_cmeth (pe_glob (v := .ref CR) (by rfl) RR.mgC rfl) cr cm (GO.raw bO .nil) hr pass0 (pa_cons (pv 1) pa_nil)))))), ?_⟩
    have hl : (us.map V.ref).length = secs.length := by rw [List.length_map, h2]
    refine ⟨_, rfl, a, rfl, ⟨_, SqT.of h1⟩, for_it walk_tup (fun i σ H1 => ∃ (u : Str) (v2 v3 : Option V), σ = [some (.ref a), some (.str u), v2, v3] ∧ H1 = H ∧ u.cps.toList = (bitsL (secs.take i)).map letterC)
      ⟨"", none, none, rfl, rfl, rfl⟩ (fun _ _ _ _ ⟨_, _, _, _, e, _⟩ => by rw [e]; exact SqT.of h1) ?_ ?_⟩
    · rintro i x σ H1 H2 hi ⟨u, v2, v3, rfl, eH, hu⟩ ⟨e, hx⟩
      subst e
      subst eH
      rw [hl] at hi
      obtain ⟨t0, hu0, rfl⟩ : ∃ t, us[i]? = some t ∧ x = V.ref t := by
        rw [List.getElem?_map] at hx
        obtain ⟨t, z1, z2⟩ := Option.map_eq_some_iff.mp hx
        exact ⟨t, z1, z2.symm⟩
      obtain ⟨s, hs⟩ : ∃ s, secs[i]? = some s := ⟨_, List.getElem?_eq_getElem hi⟩
      obtain ⟨b, n0⟩ := s
      have htv0 := h3 i t0 (b, n0) hu0 hs
      have n99 : n0 ≤ 99 := (SO.len (b, n0) (List.mem_of_getElem? hs)).2
      have n01 : 1 ≤ n0 := (SO.len (b, n0) (List.mem_of_getElem? hs)).1
      refine ⟨t0, _, rfl, SqT.of htv0, rfl, _, _, rfl, _, _, rfl, rfl, ?_⟩
      refine ⟨_, rfl, _, rfl, kindS b, _, letterC b, rfl, rfl, by cases b <;> decide, kind_at b, ?_⟩
      rw [letterS_eq]
      have el : (letterS b).length = 1 := by cases b <;> decide +kernel
      refine ⟨_, rfl, letterS b, n0, rfl, rfl, by omega, by omega, by rw [el]; omega, fun z hz => ?_⟩
      have ez : z.cps.toList = (List.replicate n0 b).map letterC := by
        rw [hz, letter_toList, List.map_replicate]
        clear hz n99 n01 htv0 hs
        induction n0 with
        | zero => rfl
        | succ n ih => rw [List.replicate_succ, List.flatten_cons, ih, List.replicate_succ]; rfl
      have lu : u.length = (bitsL (secs.take i)).length := by
        have := congrArg List.length hu
        show u.cps.size = _
        simpa using this
      have lz : z.length = n0 := by
        have := congrArg List.length ez
        show z.cps.size = n0
        simpa using this
      have l1089 : 1089 ≤ sizeLine := by decide
      have lb := bits_len (secs.take i) 10 (fun s hs => (SO.len s (List.mem_of_mem_take hs)).2) (by rw [List.length_take]; omega)
      refine ⟨u, z, rfl, rfl, by rw [lu, lz]; omega, ?_⟩
      refine ⟨_, _, _, rfl, rfl, ?_⟩
      rw [tk1 hs, bits_snoc, List.map_append, ← hu, ← ez]
      show (u.cps ++ z.cps).toList = _
      simp
    · rintro σ H2 ⟨u, v2, v3, rfl, eH, hu⟩
      subst eH
      rw [hl, List.take_length] at hu
      have er := runs_bits hA fun s hs => (SO.len s hs).1
      have lb := bits_len secs 10 (fun s hs => (SO.len s hs).2) h10
      exact ⟨rfl, _, rfl, u, bitsL secs, rfl, hu, by omega, by rw [er]; exact SO, fun H' p s' hp rd => by rw [er] at rd; exact k H' p s' hp rd⟩
end
end Sl

set_option Elab.async false
set_option linter.all false
set_option maxRecDepth 100000
set_option maxHeartbeats 2000000
/-! _law_alike of values that are the same (the laws k41 to k46, k50). -/
namespace Sl
open PySem PySem.Spec L2 OwnR LamX
inductive FlatV : V → Prop
  | non : FlatV .non
  | int (i : Int) : FlatV (.int i)
  | str (s : Str) : FlatV (.str s)
  | bl (b : Bool) : FlatV (.bl b)
/-- two values that are the same, to a depth -/
inductive AlkV (H : Hp) : Nat → V → V → Prop
  | flat {d : Nat} {x : V} (h : FlatV x) : AlkV H d x x
  | tup {d : Nat} {a b : Addr} {xs ys : List V} (ha : H a = some (.tup xs)) (hb : H b = some (.tup ys)) (hl : xs.length = ys.length) (few : xs.length ≤ 100000) (h : ∀ (i : Nat) (u v : V), xs[i]? = some u → ys[i]? = some v → AlkV H d u v) : AlkV H (d + 1) (.ref a) (.ref b)
  | lst {d : Nat} {a b : Addr} {xs ys : List V} (ha : H a = some (.lst xs)) (hb : H b = some (.lst ys)) (hl : xs.length = ys.length) (few : xs.length ≤ 100000) (h : ∀ (i : Nat) (u v : V), xs[i]? = some u → ys[i]? = some v → AlkV H d u v) : AlkV H (d + 1) (.ref a) (.ref b)
theorem AlkV.same {H H' : Hp} (s : Same H H') : ∀ {d : Nat} {x y : V}, AlkV H d x y → AlkV H' d x y := by
  intro d x y h
  induction h with
  | flat h => exact .flat h
  | tup ha hb hl few _ ih => exact .tup (s _ _ ha) (s _ _ hb) hl few ih
  | lst ha hb hl few _ ih => exact .lst (s _ _ ha) (s _ _ hb) hl few ih
section
variable {P : Program} {w : World} {K : PySem.W.Frag} {mg : Str → Option Value} {base : Heap}
def spAlike (d : Nat) : Sp := fun vs H Q _ => ∃ x y : V, vs = [x, y] ∧ AlkV H d x y ∧ ∀ H', Same H H' → Q (.bl true) H'
def nAlike : List Str := ["_law_one", "_law_due", "_law_k"]
theorem scAlike : FnScope nAlike ["_law_one", "_law_due"] (defScope sAlike) := ⟨rfl, rfl, rfl, by decide +kernel, rfl, by decide +kernel, by decide +kernel⟩
theorem isi2 {t : String} (h : t = "tuple" ∨ t = "list") : PySem.W.kitAny K (.type t) [.type "tuple", .type "list"] = some true := by
  rcases h with rfl | rfl
  · exact kitAny_cons (b := true) (kit_ty (by decide +kernel)) (fun z => nomatch z) (fun _ => rfl)
  · exact kitAny_cons (b := false) (kit_ty (by decide +kernel)) (fun _ => kitAny_cons (b := true) (kit_ty (by decide +kernel)) (fun z => nomatch z) (fun _ => rfl)) (fun z => nomatch z)
theorem isi2n {t : String} (h1 : kitB t "tuple" = some false) (h2 : kitB t "list" = some false) : PySem.W.kitAny K (.type t) [.type "tuple", .type "list"] = some false :=
  kitAny_cons (b := false) (kit_ty h1) (fun _ => kitAny_cons (b := false) (kit_ty h2) (fun _ => kitAny_nil) (fun z => nomatch z)) (fun z => nomatch z)
theorem flat_ty {x : V} (h : FlatV x) (H : Hp) : ∃ t : String, TyX K H x (.type t) ∧ kitB t "tuple" = some false ∧ kitB t "list" = some false ∧ ∃ b, kitB t "bool" = some b := by
  cases h with
  | non => exact ⟨"NoneType", .base .non, by decide +kernel, by decide +kernel, false, by decide +kernel⟩
  | int i => exact ⟨"int", .base (.int i), by decide +kernel, by decide +kernel, false, by decide +kernel⟩
  | str s => exact ⟨"str", .base (.str s), by decide +kernel, by decide +kernel, false, by decide +kernel⟩
  | bl b => exact ⟨"bool", .base (.bl b), by decide +kernel, by decide +kernel, true, by decide +kernel⟩
theorem flat_scal {x : V} (h : FlatV x) : scal x x = true := by cases h <;> rfl
def spAlk : Nat → Sp
  | 0 => fun _ _ _ _ => False
  | d + 1 => spAlike d
theorem alk_flat {d : Nat} {x y : V} {H : Hp} (h : AlkV H d x y) : (x = y ∧ FlatV x) ∨ (∃ e a b xs ys, d = e + 1 ∧ x = .ref a ∧ y = .ref b ∧ H a = some (.tup xs) ∧ H b = some (.tup ys) ∧ xs.length = ys.length ∧ xs.length ≤ 100000 ∧ ∀ (i : Nat) (u v : V), xs[i]? = some u → ys[i]? = some v → AlkV H e u v) ∨
    (∃ e a b xs ys, d = e + 1 ∧ x = .ref a ∧ y = .ref b ∧ H a = some (.lst xs) ∧ H b = some (.lst ys) ∧ xs.length = ys.length ∧ xs.length ≤ 100000 ∧ ∀ (i : Nat) (u v : V), xs[i]? = some u → ys[i]? = some v → AlkV H e u v) := by
  cases h with
  | flat h => exact .inl ⟨rfl, h⟩
  | tup ha hb hl few h => exact .inr (.inl ⟨_, _, _, _, _, rfl, rfl, rfl, ha, hb, hl, few, h⟩)
  | lst ha hb hl few h => exact .inr (.inr ⟨_, _, _, _, _, rfl, rfl, rfl, ha, hb, hl, few, h⟩)
theorem ok_alikeS {f : Addr} {fd : FuncData} (BA : Fb K mg "_law_alike" sAlike ["_law_one", "_law_due"] f fd) (M : Mg mg) (d : Nat) (ih : FnOk P w K mg base CX0 d f fd ["_law_one", "_law_due"] (spAlk d)) : FnOk P w K mg base CX0 (d + 1) f fd ["_law_one", "_law_due"] (spAlike d) := by
  refine BA.fn.ok scAlike (fun vs H Q E h => ?_) (fun cdv A outer s H vs Q E hr h => ?_)
  · obtain ⟨x, y, rfl, _⟩ := h
    rfl
  · obtain ⟨x, y, rfl, hxy, k⟩ := h
    have nd := scAlike.nd
    have hu64 := hr.units
    rcases alk_flat hxy with ⟨rfl, hf⟩ | ⟨e, a, b, xs, ys, rfl, rfl, rfl, ha, hb, hl, few, hall⟩ | ⟨e, a, b, xs, ys, rfl, rfl, rfl, ha, hb, hl, few, hall⟩
    · refine ⟨_, (pss_cons (ps_if (PW.pt (pw_and (pt_val (pe_callB call_isiT (by rfl) M.isinstance boot_isinstance (pa_cons (pv 0) (pa_cons (pe_tup (pa_cons (pe_bltn (v := .ty "tuple") (by rfl) M.tuple boot_tTuple rfl) (pa_cons (pe_bltn (v := .ty "list") (by rfl) M.list (by decide +kernel) rfl) pa_nil))) pa_nil)))) (pw_and1 (pt_val (pe_callB call_isiT (by rfl) M.isinstance boot_isinstance (pa_cons (pv 1) (pa_cons (pe_tup (pa_cons (pe_bltn (v := .ty "tuple") (by rfl) M.tuple boot_tTuple rfl) (pa_cons (pe_bltn (v := .ty "list") (by rfl) M.list (by decide +kernel) rfl) pa_nil))) pa_nil))))))) (pss_cons (ps_if (PW.pt (pw_or (pt_cmpR op_ne (pe_callB call_isi (by rfl) M.isinstance boot_isinstance (pa_cons (pv 0) (pa_cons (pe_bltn (v := .ty "tuple") (by rfl) M.tuple boot_tTuple rfl) pa_nil))) (pe_callB call_isi (by rfl) M.isinstance boot_isinstance (pa_cons (pv 1) (pa_cons (pe_bltn (v := .ty "tuple") (by rfl) M.tuple boot_tTuple rfl) pa_nil))) (nomark _)) (pw_or1 (pt_cmpR op_ne (pe_callB call_len_seq (by rfl) M.len boot_len (pa_cons (pv 0) pa_nil)) (pe_callB call_len_seq (by rfl) M.len boot_len (pa_cons (pv 1) pa_nil)) (nomark _))))) (pss_one (ps_ret pe_bl)) pss_nil) (pss_one (ps_ret (pe_cmpR (op_eqD hu64) (pe_lc (own := [("_law_k", 2)]) (g := gName 2) (tt := tNot (tB (tCall (spAlk d) [] E0 (tCons (tOp (rIxT K) (tVar 0) (tVar 2)) (tCons (tOp (rIxT K) (tVar 1) (tVar 2)) tNil))))) (te := tVar 2) (by rfl) nd (pi_range1 (by rfl) M.range (pa_cons (pe_callB call_len_seq (by rfl) M.len boot_len (pa_cons (pv 0) pa_nil)) pa_nil)) (blkOk_by (N := nAlike) (sc := defScope sAlike) (by decide +kernel)) (fun _ _ _ _ _ => pg_name (i := 2) nd rfl (Or.inl rfl)) (fun _ _ _ _ _ => pts_one (pt_not (pt_val (pe_call ih hr (by rfl) BA.at_ BA.fn.kp BA.bd .nil pass0 (pa_cons (pe_ix (r := rIxT K) ix_tup (pv 0) (pv 2) (fun _ _ => rfl)) (pa_cons (pe_ix (r := rIxT K) ix_tup (pv 1) (pv 2) (fun _ _ => rfl)) pa_nil)))))) (fun _ _ _ _ _ => pv 2)) (pe_lst pa_nil) (nomark _))))) pss_nil) (pss_one (ps_ret (pe_and (pe_cmpR op_eq (pv 0) (pv 1) (nomark _)) (pe_one (pe_cmpR op_eq (pe_callB call_isi (by rfl) M.isinstance boot_isinstance (pa_cons (pv 0) (pa_cons (pe_bltn (v := .ty "bool") (by rfl) M.bool boot_tBool rfl) pa_nil))) (pe_callB call_isi (by rfl) M.isinstance boot_isinstance (pa_cons (pv 1) (pa_cons (pe_bltn (v := .ty "bool") (by rfl) M.bool boot_tBool rfl) pa_nil))) (nomark _))))))), ?_⟩
      obtain ⟨t, ty, t1, t2, b, t3⟩ := flat_ty (K := K) hf H
      have tyE : ∀ H', TyX K H' x (.type t) := fun H' => by
        cases hf <;> cases ty <;> first | exact .base (by rename_i h; cases h <;> constructor)
      refine ⟨_, rfl, by show 2 ≤ sizeLine; decide, fun tp htp => ⟨x, tp, [.ty "tuple", .ty "list"], .type t, [.type "tuple", .type "list"], false, rfl, upd_same, .cons (.ty _) (.cons (.ty _) .nil), tyE _, isi2n t1 t2, false, rfl, iteF ?_⟩⟩
      have s1 := newS htp (.tup [.ty "tuple", .ty "list"])
      generalize upd H tp (.tup [.ty "tuple", .ty "list"]) = H1 at s1 ⊢
      refine ⟨_, rfl, _, rfl, flat_scal hf, true, by rw [decide_eq_true rfl], iteT ?_⟩
      refine ⟨_, rfl, x, _, .type t, _, b, rfl, .ty "bool", tyE _, kit_ty t3, _, rfl, x, _, .type t, _, b, rfl, .ty "bool", tyE _, kit_ty t3, rfl, ?_⟩
      rw [decide_eq_true rfl]
      exact k H1 s1
    · refine ⟨_, (pss_cons (ps_if (PW.pt (pw_and (pt_val (pe_callB call_isiT (by rfl) M.isinstance boot_isinstance (pa_cons (pv 0) (pa_cons (pe_tup (pa_cons (pe_bltn (v := .ty "tuple") (by rfl) M.tuple boot_tTuple rfl) (pa_cons (pe_bltn (v := .ty "list") (by rfl) M.list (by decide +kernel) rfl) pa_nil))) pa_nil)))) (pw_and1 (pt_val (pe_callB call_isiT (by rfl) M.isinstance boot_isinstance (pa_cons (pv 1) (pa_cons (pe_tup (pa_cons (pe_bltn (v := .ty "tuple") (by rfl) M.tuple boot_tTuple rfl) (pa_cons (pe_bltn (v := .ty "list") (by rfl) M.list (by decide +kernel) rfl) pa_nil))) pa_nil))))))) (pss_cons (ps_if (PW.pt (pw_or (pt_cmpR op_ne (pe_callB call_isi (by rfl) M.isinstance boot_isinstance (pa_cons (pv 0) (pa_cons (pe_bltn (v := .ty "tuple") (by rfl) M.tuple boot_tTuple rfl) pa_nil))) (pe_callB call_isi (by rfl) M.isinstance boot_isinstance (pa_cons (pv 1) (pa_cons (pe_bltn (v := .ty "tuple") (by rfl) M.tuple boot_tTuple rfl) pa_nil))) (nomark _)) (pw_or1 (pt_cmpR op_ne (pe_callB call_len_seq (by rfl) M.len boot_len (pa_cons (pv 0) pa_nil)) (pe_callB call_len_seq (by rfl) M.len boot_len (pa_cons (pv 1) pa_nil)) (nomark _))))) (pss_one (ps_ret pe_bl)) pss_nil) (pss_one (ps_ret (pe_cmpR (op_eqD hu64) (pe_lc (own := [("_law_k", 2)]) (g := gName 2) (tt := tNot (tB (tCall (spAlk (e + 1)) [] E0 (tCons (tOp (rIxT K) (tVar 0) (tVar 2)) (tCons (tOp (rIxT K) (tVar 1) (tVar 2)) tNil))))) (te := tVar 2) (by rfl) nd (pi_range1 (by rfl) M.range (pa_cons (pe_callB call_len_seq (by rfl) M.len boot_len (pa_cons (pv 0) pa_nil)) pa_nil)) (blkOk_by (N := nAlike) (sc := defScope sAlike) (by decide +kernel)) (fun _ _ _ _ _ => pg_name (i := 2) nd rfl (Or.inl rfl)) (fun _ _ _ _ _ => pts_one (pt_not (pt_val (pe_call ih hr (by rfl) BA.at_ BA.fn.kp BA.bd .nil pass0 (pa_cons (pe_ix (r := rIxT K) ix_tup (pv 0) (pv 2) (fun _ _ => rfl)) (pa_cons (pe_ix (r := rIxT K) ix_tup (pv 1) (pv 2) (fun _ _ => rfl)) pa_nil)))))) (fun _ _ _ _ _ => pv 2)) (pe_lst pa_nil) (nomark _))))) pss_nil) (pss_one (ps_ret (pe_and (pe_cmpR op_eq (pv 0) (pv 1) (nomark _)) (pe_one (pe_cmpR op_eq (pe_callB call_isi (by rfl) M.isinstance boot_isinstance (pa_cons (pv 0) (pa_cons (pe_bltn (v := .ty "bool") (by rfl) M.bool boot_tBool rfl) pa_nil))) (pe_callB call_isi (by rfl) M.isinstance boot_isinstance (pa_cons (pv 1) (pa_cons (pe_bltn (v := .ty "bool") (by rfl) M.bool boot_tBool rfl) pa_nil))) (nomark _))))))), ?_⟩
      refine ⟨_, rfl, by show 2 ≤ sizeLine; decide, fun tp htp => ?_⟩
      have s1 := newS htp (.tup [.ty "tuple", .ty "list"])
      refine ⟨.ref a, tp, [.ty "tuple", .ty "list"], .type "tuple", [.type "tuple", .type "list"], true, rfl, upd_same, .cons (.ty _) (.cons (.ty _) .nil), .base (.tup (s1 _ _ ha)), isi2 (.inl rfl), true, rfl, iteT ?_⟩
      generalize upd H tp (.tup [.ty "tuple", .ty "list"]) = H1 at s1 ⊢
      refine ⟨_, rfl, by show 2 ≤ sizeLine; decide, fun tq htq => ?_⟩
      have s2 := s1.trans (newS htq (.tup [.ty "tuple", .ty "list"]))
      refine ⟨.ref b, tq, [.ty "tuple", .ty "list"], .type "tuple", [.type "tuple", .type "list"], true, rfl, upd_same, .cons (.ty _) (.cons (.ty _) .nil), .base (.tup (s2 _ _ hb)), isi2 (.inl rfl), true, rfl, iteT ?_⟩
      generalize upd H1 tq (.tup [.ty "tuple", .ty "list"]) = H2 at s2 ⊢
      refine ⟨_, rfl, .ref a, _, .type "tuple", _, true, rfl, .ty "tuple", .base (.tup (s2 _ _ ha)), kit_ty (by decide +kernel), _, rfl, .ref b, _, .type "tuple", _, true, rfl, .ty "tuple", .base (.tup (s2 _ _ hb)), kit_ty (by decide +kernel), rfl, false, rfl, iteF ?_⟩
      refine ⟨_, rfl, a, _, rfl, .inr (SqT.of (s2 _ _ ha)), _, rfl, b, _, rfl, .inr (SqT.of (s2 _ _ hb)), rfl, false, by rw [hl]; simp, iteF ?_⟩
      have l10 : (100000 : Int) < 2 ^ 62 := by decide
      refine ⟨_, rfl, a, _, rfl, .inr (SqT.of (s2 _ _ ha)), ((xs.length : Nat) : Int), rfl, by omega, by omega, fun D hD => ?_⟩
      rw [Int.toNat_natCast]
      refine lc_it walk_range (fun i H3 => Same H2 H3 ∧ H3 D = some (.lst [])) ⟨newS hD _, upd_same⟩ (fun _ _ _ _ => True.intro) ?_ ?_
      · rintro i z Hz H3 hi ⟨k3, hD3⟩ ⟨e0, hz⟩
        subst e0
        obtain rfl : z = V.int ((i : Nat) : Int) := hz.trans (congrArg V.int (by omega))
        obtain ⟨u, hu⟩ : ∃ u, xs[i]? = some u := ⟨_, List.getElem?_eq_getElem hi⟩
        obtain ⟨v, hv⟩ : ∃ u, ys[i]? = some u := ⟨_, List.getElem?_eq_getElem (by omega)⟩
        have s3 := s2.trans k3
        refine ⟨rfl, ?_⟩
        refine ⟨_, rfl, _, rfl, a, _, _, u, rfl, rfl, SqT.of (s3 _ _ ha), atI_nat hu, _, rfl, _, rfl, b, _, _, v, rfl, rfl, SqT.of (s3 _ _ hb), atI_nat hv, u, v, rfl, (hall i u v hu hv).same s3, fun H4 s4 => ⟨true, rfl, iteF ⟨k3.trans s4, s4 _ _ hD3⟩⟩⟩
      rintro H3 ⟨k3, hD3⟩
      refine ⟨by show 0 ≤ sizeLine; decide, fun z hz => ?_⟩
      have s4 := newS hz (.lst [])
      exact ⟨.list [], .list [], .lst (SqL.of (s4 _ _ hD3)) .nil, .lst (SqL.of upd_same) .nil, rfl, rfl, k _ (s2.trans (k3.trans s4))⟩
    · refine ⟨_, (pss_cons (ps_if (PW.pt (pw_and (pt_val (pe_callB call_isiT (by rfl) M.isinstance boot_isinstance (pa_cons (pv 0) (pa_cons (pe_tup (pa_cons (pe_bltn (v := .ty "tuple") (by rfl) M.tuple boot_tTuple rfl) (pa_cons (pe_bltn (v := .ty "list") (by rfl) M.list (by decide +kernel) rfl) pa_nil))) pa_nil)))) (pw_and1 (pt_val (pe_callB call_isiT (by rfl) M.isinstance boot_isinstance (pa_cons (pv 1) (pa_cons (pe_tup (pa_cons (pe_bltn (v := .ty "tuple") (by rfl) M.tuple boot_tTuple rfl) (pa_cons (pe_bltn (v := .ty "list") (by rfl) M.list (by decide +kernel) rfl) pa_nil))) pa_nil))))))) (pss_cons (ps_if (PW.pt (pw_or (pt_cmpR op_ne (pe_callB call_isi (by rfl) M.isinstance boot_isinstance (pa_cons (pv 0) (pa_cons (pe_bltn (v := .ty "tuple") (by rfl) M.tuple boot_tTuple rfl) pa_nil))) (pe_callB call_isi (by rfl) M.isinstance boot_isinstance (pa_cons (pv 1) (pa_cons (pe_bltn (v := .ty "tuple") (by rfl) M.tuple boot_tTuple rfl) pa_nil))) (nomark _)) (pw_or1 (pt_cmpR op_ne (pe_callB call_len_seq (by rfl) M.len boot_len (pa_cons (pv 0) pa_nil)) (pe_callB call_len_seq (by rfl) M.len boot_len (pa_cons (pv 1) pa_nil)) (nomark _))))) (pss_one (ps_ret pe_bl)) pss_nil) (pss_one (ps_ret (pe_cmpR (op_eqD hu64) (pe_lc (own := [("_law_k", 2)]) (g := gName 2) (tt := tNot (tB (tCall (spAlk (e + 1)) [] E0 (tCons (tOp (rIxL K) (tVar 0) (tVar 2)) (tCons (tOp (rIxL K) (tVar 1) (tVar 2)) tNil))))) (te := tVar 2) (by rfl) nd (pi_range1 (by rfl) M.range (pa_cons (pe_callB call_len_seq (by rfl) M.len boot_len (pa_cons (pv 0) pa_nil)) pa_nil)) (blkOk_by (N := nAlike) (sc := defScope sAlike) (by decide +kernel)) (fun _ _ _ _ _ => pg_name (i := 2) nd rfl (Or.inl rfl)) (fun _ _ _ _ _ => pts_one (pt_not (pt_val (pe_call ih hr (by rfl) BA.at_ BA.fn.kp BA.bd .nil pass0 (pa_cons (pe_ix (r := rIxL K) ix_list (pv 0) (pv 2) (fun _ _ => rfl)) (pa_cons (pe_ix (r := rIxL K) ix_list (pv 1) (pv 2) (fun _ _ => rfl)) pa_nil)))))) (fun _ _ _ _ _ => pv 2)) (pe_lst pa_nil) (nomark _))))) pss_nil) (pss_one (ps_ret (pe_and (pe_cmpR op_eq (pv 0) (pv 1) (nomark _)) (pe_one (pe_cmpR op_eq (pe_callB call_isi (by rfl) M.isinstance boot_isinstance (pa_cons (pv 0) (pa_cons (pe_bltn (v := .ty "bool") (by rfl) M.bool boot_tBool rfl) pa_nil))) (pe_callB call_isi (by rfl) M.isinstance boot_isinstance (pa_cons (pv 1) (pa_cons (pe_bltn (v := .ty "bool") (by rfl) M.bool boot_tBool rfl) pa_nil))) (nomark _))))))), ?_⟩
      refine ⟨_, rfl, by show 2 ≤ sizeLine; decide, fun tp htp => ?_⟩
      have s1 := newS htp (.tup [.ty "tuple", .ty "list"])
      refine ⟨.ref a, tp, [.ty "tuple", .ty "list"], .type "list", [.type "tuple", .type "list"], true, rfl, upd_same, .cons (.ty _) (.cons (.ty _) .nil), .base (.lst (s1 _ _ ha)), isi2 (.inr rfl), true, rfl, iteT ?_⟩
      generalize upd H tp (.tup [.ty "tuple", .ty "list"]) = H1 at s1 ⊢
      refine ⟨_, rfl, by show 2 ≤ sizeLine; decide, fun tq htq => ?_⟩
      have s2 := s1.trans (newS htq (.tup [.ty "tuple", .ty "list"]))
      refine ⟨.ref b, tq, [.ty "tuple", .ty "list"], .type "list", [.type "tuple", .type "list"], true, rfl, upd_same, .cons (.ty _) (.cons (.ty _) .nil), .base (.lst (s2 _ _ hb)), isi2 (.inr rfl), true, rfl, iteT ?_⟩
      generalize upd H1 tq (.tup [.ty "tuple", .ty "list"]) = H2 at s2 ⊢
      refine ⟨_, rfl, .ref a, _, .type "list", _, false, rfl, .ty "tuple", .base (.lst (s2 _ _ ha)), kit_ty (by decide +kernel), _, rfl, .ref b, _, .type "list", _, false, rfl, .ty "tuple", .base (.lst (s2 _ _ hb)), kit_ty (by decide +kernel), rfl, false, rfl, iteF ?_⟩
      refine ⟨_, rfl, a, _, rfl, .inl (SqL.of (s2 _ _ ha)), _, rfl, b, _, rfl, .inl (SqL.of (s2 _ _ hb)), rfl, false, by rw [hl]; simp, iteF ?_⟩
      have l10 : (100000 : Int) < 2 ^ 62 := by decide
      refine ⟨_, rfl, a, _, rfl, .inl (SqL.of (s2 _ _ ha)), ((xs.length : Nat) : Int), rfl, by omega, by omega, fun D hD => ?_⟩
      rw [Int.toNat_natCast]
      refine lc_it walk_range (fun i H3 => Same H2 H3 ∧ H3 D = some (.lst [])) ⟨newS hD _, upd_same⟩ (fun _ _ _ _ => True.intro) ?_ ?_
      · rintro i z Hz H3 hi ⟨k3, hD3⟩ ⟨e0, hz⟩
        subst e0
        obtain rfl : z = V.int ((i : Nat) : Int) := hz.trans (congrArg V.int (by omega))
        obtain ⟨u, hu⟩ : ∃ u, xs[i]? = some u := ⟨_, List.getElem?_eq_getElem hi⟩
        obtain ⟨v, hv⟩ : ∃ u, ys[i]? = some u := ⟨_, List.getElem?_eq_getElem (by omega)⟩
        have s3 := s2.trans k3
        refine ⟨rfl, ?_⟩
        refine ⟨_, rfl, _, rfl, a, _, _, u, rfl, rfl, SqL.of (s3 _ _ ha), atI_nat hu, _, rfl, _, rfl, b, _, _, v, rfl, rfl, SqL.of (s3 _ _ hb), atI_nat hv, u, v, rfl, (hall i u v hu hv).same s3, fun H4 s4 => ⟨true, rfl, iteF ⟨k3.trans s4, s4 _ _ hD3⟩⟩⟩
      rintro H3 ⟨k3, hD3⟩
      refine ⟨by show 0 ≤ sizeLine; decide, fun z hz => ?_⟩
      have s4 := newS hz (.lst [])
      exact ⟨.list [], .list [], .lst (SqL.of (s4 _ _ hD3)) .nil, .lst (SqL.of upd_same) .nil, rfl, rfl, k _ (s2.trans (k3.trans s4))⟩
theorem ok_alike {f : Addr} {fd : FuncData} (BA : Fb K mg "_law_alike" sAlike ["_law_one", "_law_due"] f fd) (M : Mg mg) : ∀ d : Nat, FnOk P w K mg base CX0 (d + 1) f fd ["_law_one", "_law_due"] (spAlike d)
  | 0 => ok_alikeS BA M 0 ⟨fun _ _ _ _ h => h.elim, fun _ _ _ _ _ _ _ _ _ _ _ _ _ hs => hs.elim⟩
  | d + 1 => ok_alikeS BA M (d + 1) (ok_alike BA M d)
end
end Sl

set_option Elab.async false
set_option linter.all false
set_option maxRecDepth 100000
set_option maxHeartbeats 2000000
/-! Lambdas as values: made (with a default, or none), kept in lists, handed to a def that calls them, called. -/
namespace OwnR
open PySem PySem.Spec PyProof.Rows L2 LamX
/-- the text of a lambda; own: its one parameter, whose default is 0 -/
structure LamT where
  par : Arguments
  body : Expr
  scope : Scope
  own : Option Str
/-- at f: the lambda, its defaults at dV -/
def LamA (f : Addr) (q : Str) (cl : List (Str × Addr)) (T : LamT) (c' : Addr) (dV : Value) : HO :=
  .ext fun h => ∃ doc pm ctv : Value, h.get? f = some (PySem.W.kdv_obj "<lambda>" q T.par (.expr T.body) T.scope cl dV doc pm c' ctv)
theorem lamA_tbl {f c' : Addr} {q : Str} {cl : List (Str × Addr)} {T : LamT} {dV : Value} (ps : Array Value) : LamA f q cl T c' dV ≠ .tbl ps := fun z => by
  unfold LamA at z
  cases z
/-- a lambda of the maker (its name q, its cells cl) stands at f -/
def LamV (q : Str) (cl : List (Str × Addr)) (H : Hp) (f : Addr) (T : LamT) : Prop :=
  ∃ (c' : Addr) (dV : Value), H f = some (LamA f q cl T c' dV) ∧ H c' = some (CodeO c' q) ∧ ((T.own = none ∧ dV = .none) ∨ ∃ (a : Str) (t : Addr), T.own = some a ∧ dV = .ref t ∧ H t = some (.tup [.int 0]))
theorem LamV.ext {q : Str} {cl : List (Str × Addr)} {H H' : Hp} {f : Addr} {T : LamT} (h : LamV q cl H f T) (e : ExtN H H') : LamV q cl H' f T := by
  obtain ⟨c', dV, h1, h2, h3⟩ := h
  refine ⟨c', dV, e _ _ h1 lamA_tbl, e _ _ h2 codeO_ne, ?_⟩
  rcases h3 with h3 | ⟨a, t, h4, h5, h6⟩
  · exact .inl h3
  · exact .inr ⟨a, t, h4, h5, e _ _ h6 (fun _ z => nomatch z)⟩
/-- the parameters bind -/
def LamB (T : LamT) : Prop := match T.own with
  | none => ∀ (q : Str) (cl : List (Str × Addr)) (doc pm cv ctv : Value), bindArgs (PySem.W.kdv_fn "<lambda>" q T.par (.expr T.body) T.scope cl .none doc pm cv ctv) ⟨[], []⟩ = pure []
  | some a => ∀ (q : Str) (cl : List (Str × Addr)) (t : Addr) (doc pm cv ctv : Value), ∃ k : Option (Array Value) → Sem (List (Str × Value)),
      bindArgs (PySem.W.kdv_fn "<lambda>" q T.par (.expr T.body) T.scope cl (.ref t) doc pm cv ctv) ⟨[], []⟩ = (seqItems? (.ref t) >>= k) ∧ ∀ v : Value, k (some #[v]) = pure [(a, v)]
/-- its names: globals, the maker's cells, its parameter (no name of the maker's) -/
structure LamS2 (N : List Str) (sc : Scope) (T : LamT) : Prop where
  kind : T.scope.kind = .function
  co : T.scope.isCoroutine = false
  gen : T.scope.isGenerator = false
  cell : ∀ y ∈ T.scope.names, y.2 ≠ .cell
  loc : ∀ y ∈ T.scope.names, y.2 = .local → y.1 ∉ N
  free : ∀ y ∈ T.scope.names, y.2 = .free → sc.names.lookup y.1 = some .cell ∨ sc.names.lookup y.1 = some .free
  par : ∀ a, T.own = some a → T.scope.names.lookup a = some .local
def lamS2B (N : List Str) (sc : Scope) (T : LamT) : Bool :=
  decide (T.scope.kind = .function) && !T.scope.isCoroutine && !T.scope.isGenerator && (match T.own with | none => true | some a => decide (T.scope.names.lookup a = some .local)) &&
    T.scope.names.all fun y => !decide (y.2 = .cell) && (!decide (y.2 = .local) || !decide (y.1 ∈ N)) && (!decide (y.2 = .free) || decide (sc.names.lookup y.1 = some .cell) || decide (sc.names.lookup y.1 = some .free))
theorem lamS2_by {N : List Str} {sc : Scope} {T : LamT} (h : lamS2B N sc T = true) : LamS2 N sc T := by
  unfold lamS2B at h
  simp only [Bool.and_eq_true, Bool.or_eq_true, Bool.not_eq_true', decide_eq_true_eq, decide_eq_false_iff_not, List.all_eq_true] at h
  obtain ⟨⟨⟨⟨h1, h2⟩, h3⟩, h5⟩, h4⟩ := h
  refine ⟨h1, h2, h3, fun y hy => (h4 y hy).1.1, fun y hy e => ?_, fun y hy e => ?_, fun a e => ?_⟩
  · rcases (h4 y hy).1.2 with z | z
    · exact absurd e z
    · exact z
  · rcases (h4 y hy).2 with (z | z) | z
    · exact absurd e z
    · exact .inl z
    · exact .inr z
  · rw [e] at h5
    exact of_decide_eq_true h5
theorem LamS2.has {X : Cx} {T : LamT} (L : LamS2 X.N X.env.scope T) (ok : X.Ok) : ∀ y ∈ T.scope.names, y.2 = .free → ∃ c, X.env.cells.lookup y.1 = some c := fun y hy e => (L.free y hy e).elim (fun z => ok.has _ (.inl z)) fun z => ok.has _ (.inr z)
/-- the maker's name for its lambdas, the cells that a lambda gets -/
abbrev lq (X : Cx) : Str := X.env.qual ++ "<lambda>"
abbrev lcl (X : Cx) (T : LamT) : List (Str × Addr) := cloFrom X.env.cells T.scope.names []
section
variable {X : Cx} {pins : List (Addr × Obj)} {σ : L2.St} {H : Hp} {s : Shared}
/-- the function object is laid and known -/
theorem fn_laid {f c' : Addr} {T : LamT} {dV doc pm ctv : Value} {h' : Heap} {t' : Nat} (I : Inv X pins σ H { s with heap := h', toks := t' }) (hf : f = h'.objs.size) :
    Inv X pins σ (upd H f (LamA f (lq X) (lcl X T) T c' dV)) { s with heap := h'.push (PySem.W.kdv_obj "<lambda>" (lq X) T.par (.expr T.body) T.scope (lcl X T) dV doc pm c' ctv), toks := t' } := by
  subst hf
  have hg : (h'.push (PySem.W.kdv_obj "<lambda>" (lq X) T.par (.expr T.body) T.scope (lcl X T) dV doc pm c' ctv)).get? h'.objs.size = some (PySem.W.kdv_obj "<lambda>" (lq X) T.par (.expr T.body) T.scope (lcl X T) dV doc pm c' ctv) := Heap.get?_push_size _ rfl
  have new : ObjOk X.prog X.w (upd H h'.objs.size (LamA h'.objs.size (lq X) (lcl X T) T c' dV)) (h'.push (PySem.W.kdv_obj "<lambda>" (lq X) T.par (.expr T.body) T.scope (lcl X T) dV doc pm c' ctv)) h'.objs.size (LamA h'.objs.size (lq X) (lcl X T) T c' dV) :=
    ⟨⟨doc, pm, ctv, hg⟩, ⟨_, hg⟩, fun h1 h2 ⟨d, p, c, e⟩ k => ⟨d, p, c, k _ e⟩⟩
  exact I.laid (s := { s with heap := h', toks := t' }) (t' := t') (fun b o e => Heap.get?_push_of_some _ e) (Nat.le_refl _) new
/-- the lambda's object is made, its defaults at dV -/
theorem tail_makeV {T : LamT} {dV : Value} {Tb : List (Addr × Str)} {c P : Addr} {pos : Pos} {E : Value → Shared → Prop} {Q : Value → Shared → Prop} (I : Inv X pins σ H s) (TB : TabB X.base X.mg c P) (hcode : X.env.code = .ref c)
    (hm : (P, lq X) ∈ Tb) (hu : ∀ p ∈ Tb, p.1 = P → p.2 = lq X) (hT : Tabs Tb H) (hfree : ∀ y ∈ T.scope.names, y.2 = .free → ∃ c, X.env.cells.lookup y.1 = some c)
    (h : ∀ (f c' : Addr) (H1 : Hp) (s' : Shared), Inv X pins σ H1 s' → ExtN H H1 → Tabs Tb H1 → H1 f = some (LamA f (lq X) (lcl X T) T c' dV) → H1 c' = some (CodeO c' (lq X)) → Q (.ref f) s') :
    wpAny (model X.prog X.w) X.A (makeTail "<lambda>" (lq X) T.par (.expr T.body) T.scope X.env dV .none none pos pos.line) Q E s := by
  obtain ⟨ps, hP, ht, ha⟩ := hT _ hm
  have bP : s.heap.BuiltinsAt X.mg P := TB.bm.keeps I.bk
  have hP' : s.heap.get? P = some { cls := .none, data := .fields ps } := I.hok P _ hP
  cases hc : codeAmong pos ps.toList with
  | none =>
    refine PySem.W.kdv_makeTail (mg := X.mg) (c := c) (P := P) (ps := ps) (closure_ok hfree) I.ok.glob (I.mod.glob.keeps I.bk) hcode (TB.code.keeps I.bk) hP' ht hc TB.gP bP fun c' ctv doc h' tk hx hge hlt hrec htb => ?_
    obtain ⟨c2, oc, vs, t, e2, hoc, hd, hv⟩ := hrec
    cases e2
    have hsz : s.heap.objs.size ≤ h'.objs.size := Nat.le_trans hge (Nat.le_of_lt hlt)
    have nC : H c' = none := I.hok.fresh hge
    have I1 := inv_table (t' := tk) (more := #[rawInt pos.line, rawInt pos.col, .ref c']) (h' := h') I hP hx htb hge ⟨oc, vs, t, hoc, hd, hv⟩
    have hE : ExtN H (upd (upd H P (.tbl (ps ++ #[rawInt pos.line, rawInt pos.col, .ref c']))) c' (CodeO c' (lq X))) := fun b o e n => by
      rw [upd_ne (ne_of_none e nC), upd_ne (fun z => n ps (Option.some.inj (e.symm.trans (by rw [z]; exact hP))))]
      exact e
    have n1 : h'.objs.size ≠ c' := Nat.ne_of_gt hlt
    have nF : (upd (upd H P (.tbl (ps ++ #[rawInt pos.line, rawInt pos.col, .ref c']))) c' (CodeO c' (lq X))) h'.objs.size = none := by
      have n2 : h'.objs.size ≠ P := Nat.ne_of_gt (Nat.lt_of_lt_of_le (Heap.lt_size hP') hsz)
      rw [upd_ne n1, upd_ne n2]
      exact I.hok.fresh hsz
    have I2 := fn_laid (T := T) (c' := c') (dV := dV) (doc := doc) (pm := (X.mg "__name__").getD .none) (ctv := ctv) I1 rfl
    have eL : (ps ++ #[rawInt pos.line, rawInt pos.col, .ref c']).toList = ps.toList ++ [rawInt pos.line, rawInt pos.col, .ref c'] := by simp
    have T1 : Tabs Tb (upd (upd H P (.tbl (ps ++ #[rawInt pos.line, rawInt pos.col, .ref c']))) c' (CodeO c' (lq X))) := fun p hp => by
      by_cases hb : p.1 = P
      · rw [hu p hp hb, hb]
        refine ⟨_, by rw [upd_ne (ne_of_none hP nC), upd_same], by rw [eL]; exact PySem.TriplesOk_snoc _ _ _ _ ht, fun p' cv hcv => ?_⟩
        rw [eL] at hcv
        rcases among_app _ ht hcv with z | z
        · obtain ⟨c0, e1, e2⟩ := ha p' cv z
          exact ⟨c0, e1, hE _ _ e2 codeO_ne⟩
        · exact ⟨c', z, upd_same⟩
      · obtain ⟨ps', a1, a2, a3⟩ := hT p hp
        refine ⟨ps', by rw [upd_ne (ne_of_none a1 nC), upd_ne hb]; exact a1, a2, fun p' cv hcv => ?_⟩
        obtain ⟨c0, e1, e2⟩ := a3 p' cv hcv
        exact ⟨c0, e1, hE _ _ e2 codeO_ne⟩
    have sN : ∀ b o, (upd (upd H P (.tbl (ps ++ #[rawInt pos.line, rawInt pos.col, .ref c']))) c' (CodeO c' (lq X))) b = some o → (upd (upd (upd H P (.tbl (ps ++ #[rawInt pos.line, rawInt pos.col, .ref c']))) c' (CodeO c' (lq X))) h'.objs.size (LamA h'.objs.size (lq X) (lcl X T) T c' dV)) b = some o := fun b o e => by
      rw [upd_ne (ne_of_none e nF)]
      exact e
    exact h _ c' _ _ I2 (fun b o e n => sN _ _ (hE b o e n)) (T1.ext sN) upd_same (sN _ _ upd_same)
  | some cv =>
    obtain ⟨c', e, hco⟩ := ha pos cv hc
    subst e
    refine PySem.W.kdv_makeTailHit (mg := X.mg) (c := c) (P := P) (ps := ps) (closure_ok hfree) I.ok.glob (I.mod.glob.keeps I.bk) hcode (TB.code.keeps I.bk) hP' ht hc bP fun ctv doc h' tk hx hsz => ?_
    have I1 : Inv X pins σ H { s with heap := h', toks := tk } := I.kept hx
    have I2 := fn_laid (T := T) (c' := c') (dV := dV) (doc := doc) (pm := (X.mg "__name__").getD .none) (ctv := ctv) I1 rfl
    have nF : H h'.objs.size = none := I.hok.fresh hsz
    have sN : ∀ b o, H b = some o → (upd H h'.objs.size (LamA h'.objs.size (lq X) (lcl X T) T c' dV)) b = some o := fun b o e => by
      rw [upd_ne (ne_of_none e nF)]
      exact e
    exact h _ c' _ _ I2 (ExtN.of sN) (hT.ext sN) upd_same (sN _ _ hco)
/-- the reading of a lambda: a new one stands there -/
def tLamV (Tb : List (Addr × Str)) (q : Str) (cl : List (Str × Addr)) (T : LamT) : TE := fun _ H Q => Tabs Tb H ∧ ∀ (H1 : Hp) (f : Addr), ExtN H H1 → Tabs Tb H1 → LamV q cl H1 f T → Q (.ref f) H1
/-- lambda: body -/
theorem pe_lamV0 {T : LamT} {Tb : List (Addr × Str)} {c P : Addr} {pos : Pos} (TB : TabB X.base X.mg c P) (hcode : X.env.code = .ref c) (hm : (P, lq X) ∈ Tb) (hu : ∀ p ∈ Tb, p.1 = P → p.2 = lq X) (L : LamS2 X.N X.env.scope T)
    (hw : T.own = none) (hdef : defaultsOf T.par X.env = ([], []) := by rfl) : PE X (.Lambda T.par T.body T.scope pos) (tLamV Tb (lq X) (lcl X T) T) := by
  refine ⟨fun pins s σ H Q I h => ?_⟩
  obtain ⟨hT, h⟩ := h
  refine PySem.W.kla_eval hdef ?_
  rw [makeFunction_eq]
  simp only [List.zip_nil_right, List.filterMap_nil, List.isEmpty_nil, if_true, pure_bind]
  exact tail_makeV I TB hcode hm hu hT (L.has I.ok) fun f c' H1 s' I1 e1 T1 h1 h2 => ⟨.ref f, H1, I1, rfl, h H1 f e1 T1 ⟨c', .none, h1, h2, .inl ⟨hw, rfl⟩⟩⟩
/-- lambda a=0: body -/
theorem pe_lamD0 {T : LamT} {Tb : List (Addr × Str)} {c P : Addr} {pos p0 : Pos} {j : Nat} {a : Str} (TB : TabB X.base X.mg c P) (hcode : X.env.code = .ref c) (hm : (P, lq X) ∈ Tb) (hu : ∀ p ∈ Tb, p.1 = P → p.2 = lq X) (L : LamS2 X.N X.env.scope T)
    (hw : T.own = some a) (hd : T.par.defaults = [.Constant (.int 0) j p0]) (hk : T.par.kw_defaults = []) : PE X (.Lambda T.par T.body T.scope pos) (tLamV Tb (lq X) (lcl X T) T) := by
  refine ⟨fun pins s σ H Q I h => ?_⟩
  obtain ⟨hT, h⟩ := h
  refine PySem.W.kdv_lam (by rw [hd]; rfl) hk ?_
  rw [hd]
  have p0 := (pe_int (X := X) (i := 0) (j := j) (pos := p0)).run pins s σ H (fun v H1 => v = .int 0 ∧ H1 = H) I ⟨rfl, rfl⟩
  refine PySem.W.kdv_all1 (wpAny_mono p0 (fun v s1 ⟨x, H1, I1, r1, ex, eH⟩ => PySem.W.kdv_all0 ?_) fun _ _ z => z)
  subst ex eH
  rw [makeFunction_eq]
  simp only [List.zip_nil_right, List.filterMap_nil, List.isEmpty_nil, List.isEmpty_cons, if_true, pure_bind, Bool.false_eq_true, if_false]
  refine wpAny_bind (wpAny_newTextTuple ?_)
  have sz : s1.heap.objs.size ≤ s1.heap.objs.size := Nat.le_refl _
  have hg : (s1.heap.push (PySem.W.kdv_tup [v])).get? s1.heap.objs.size = some (PySem.W.kdv_tup [v]) := Heap.get?_push_size _ rfl
  have I2 : Inv X pins σ (upd H1 s1.heap.objs.size (.tup [.int 0])) { s1 with heap := s1.heap.push (PySem.W.kdv_tup [v]), toks := s1.toks } :=
    I1.laid (t' := s1.toks) (fun b o e => Heap.get?_push_of_some _ e) sz ⟨by show 1 ≤ sizeLine; decide, [v], .cons r1 .nil, ⟨_, hg, rfl, _, rfl⟩⟩
  have nF : H1 s1.heap.objs.size = none := I1.hok.fresh sz
  have sN : ∀ b o, H1 b = some o → (upd H1 s1.heap.objs.size (.tup [.int 0])) b = some o := fun b o e => by
    rw [upd_ne (ne_of_none e nF)]
    exact e
  exact tail_makeV I2 TB hcode hm hu (hT.ext sN) (L.has I.ok) fun f c' H3 s' I3 e3 T3 h1 h2 => ⟨.ref f, H3, I3, rfl, h H3 f ((ExtN.of sN).trans e3) T3 ⟨c', _, h1, h2, .inr ⟨a, _, hw, rfl, e3 _ _ upd_same (fun _ z => nomatch z)⟩⟩⟩
theorem pe_lamV {par : Arguments} {body : Expr} {scope : Scope} {Tb : List (Addr × Str)} {c P : Addr} {pos : Pos} (TB : TabB X.base X.mg c P) (hcode : X.env.code = .ref c) (hm : (P, lq X) ∈ Tb) (hu : ∀ p ∈ Tb, p.1 = P → p.2 = lq X) (L : LamS2 X.N X.env.scope ⟨par, body, scope, none⟩)
    (hdef : defaultsOf par X.env = ([], []) := by rfl) : PE X (.Lambda par body scope pos) (tLamV Tb (lq X) (lcl X ⟨par, body, scope, none⟩) ⟨par, body, scope, none⟩) := pe_lamV0 (T := ⟨par, body, scope, none⟩) TB hcode hm hu L rfl hdef
theorem pe_lamD {par : Arguments} {body : Expr} {scope : Scope} {Tb : List (Addr × Str)} {c P : Addr} {pos p0 : Pos} {j : Nat} {a : Str} (TB : TabB X.base X.mg c P) (hcode : X.env.code = .ref c) (hm : (P, lq X) ∈ Tb) (hu : ∀ p ∈ Tb, p.1 = P → p.2 = lq X) (L : LamS2 X.N X.env.scope ⟨par, body, scope, some a⟩)
    (hd : par.defaults = [.Constant (.int 0) j p0] := by rfl) (hk : par.kw_defaults = [] := by rfl) : PE X (.Lambda par body scope pos) (tLamV Tb (lq X) (lcl X ⟨par, body, scope, some a⟩) ⟨par, body, scope, some a⟩) := pe_lamD0 (T := ⟨par, body, scope, some a⟩) TB hcode hm hu L rfl hd hk
end
end OwnR

set_option Elab.async false
set_option linter.all false
set_option maxRecDepth 100000
set_option maxHeartbeats 2000000
/-! Lambdas that stand as values: called, and handed to a def that calls them. -/
namespace OwnR
open PySem PySem.Spec PyProof.Rows L2 LamX
section
variable {X : Cx} {pins : List (Addr × Obj)} {σ : L2.St} {H HZ : Hp} {s s1 : Shared}
/-- the lambda's context, entered at s1 from the frames outer; its maker stood so at s -/
theorem lam_startV {A : Around} {outer : List Env} {E : XK} {T : LamT} {f c' : Addr} {h₁ : Heap} {tk : Nat} {bs : List (Str × Value)} (I : Inv X pins σ H s) (L : LamS2 X.N X.env.scope T) (e0 : Env0 X.prog X.w X.K X.mg X.base A outer s1 HZ) (hd : A.handled = none)
    (un : Un (frs X.stack) [] H HZ s.heap s1.heap) (ns : h₁.Ns s1.heap.objs.size fun y => bs.reverse.lookup y) (kp : ∀ b o, s1.heap.get? b = some o → h₁.get? b = some o) :
    Inv (lamCx X A outer s1 HZ E T.scope f c') [] σ HZ { s1 with heap := h₁, toks := tk } := by
  have hasC := L.has I.ok
  have up : ∀ {y c}, (lcl X T).lookup y = some c → X.env.cells.lookup y = some c := fun {y c} e => by
    rcases cloFrom_mem (PySem.mem_of_lookup e) with m | ⟨g1, g2⟩
    · exact absurd m (by simp)
    · obtain ⟨d, hcd⟩ := hasC _ g1 rfl
      have hcd : X.env.cells.lookup y = some d := hcd
      rw [hcd] at g2
      rw [hcd, g2]
      rfl
  have down : ∀ {y}, T.scope.names.lookup y = some .free → ∃ c, (lcl X T).lookup y = some c := fun {y} hl => mem_lookup (cloFrom_has (cells := X.env.cells) (acc := []) (show (y, NameKind.free) ∈ T.scope.names from PySem.mem_of_lookup hl))
  have stays : ∀ {c : Addr} {v : Option Value}, H c = none → s.heap.IsCell c v → h₁.IsCell c v := fun {c v} n ⟨o, ho, hdt⟩ =>
    let ⟨sl, q⟩ := un.any ho n (by simp)
    ⟨{ o with slots := sl }, kp _ _ q, hdt⟩
  have no : ∀ b : Addr, ¬ b ∈ (lamCx X A outer s1 HZ E T.scope f c').ex := fun b z => nomatch (show b ∈ ([] : List Addr) from z)
  exact
    { ok :=
        { mod := e0.mod, kind := L.kind, glob := rfl, blt := rfl, above := Nat.le_refl _
          inj := fun y z c e1 e2 => I.ok.inj y z c (up e1) (up e2)
          has := fun y hy => by
            rcases (show T.scope.names.lookup y = some .cell ∨ T.scope.names.lookup y = some .free from hy) with q | q
            · exact absurd rfl (L.cell _ (PySem.mem_of_lookup q))
            · exact down q
          cab := fun y c z => nomatch (show false = true from z)
          hd := fun _ => hd, frames := Around.frames_deeper e0.frames, stk := .inr ⟨rfl, rfl⟩
          exf := fun b z => absurd z (no b), bs := e0.bs, bsz := e0.bsz, noex := fun b _ _ => no b, exfs := fun b z => absurd z (no b), funs := e0.funs, frf := e0.frf }
      os := rfl, bare := e0.bare, base := Un.kept kp
      loc := ⟨_, ns, fun i y v e1 e2 e3 => by
        rcases (show Vis T.scope y from e3) with k | k | k
        · exact absurd (List.mem_of_getElem? (show X.N[i]? = some y from e1)) (L.loc _ (PySem.mem_of_lookup k) rfl)
        · exact absurd rfl (L.cell _ (PySem.mem_of_lookup k))
        · obtain ⟨m, hn, hl⟩ := I.loc
          have vis := L.free _ (PySem.mem_of_lookup k) rfl
          obtain ⟨u, r, q⟩ := hl i y v e1 e2 (vis.elim (fun z => .inr (.inl z)) fun z => .inr (.inr z))
          obtain ⟨c2, h2⟩ := down k
          refine ⟨u, r, .inr ⟨.inr k, c2, h2, ?_⟩⟩
          rcases q with ⟨k', _⟩ | ⟨_, c3, e', z⟩
          · have k' : X.env.scope.names.lookup y = some .local := k'
            rcases vis with k2 | k2
            · rw [show X.env.scope.names.lookup y = _ from k2] at k'; cases k'
            · rw [show X.env.scope.names.lookup y = _ from k2] at k'; cases k'
          · have e'' := e'.symm.trans (up h2)
            cases e''
            exact stays (I.freeC y _ e') z⟩
      cell := fun y c e => let ⟨w', z⟩ := I.cell y c (up e); ⟨w', stays (I.freeC y c (up e)) z⟩
      free := e0.hok.fresh (Nat.le_refl _)
      freeC := fun y c e => by
        obtain ⟨v, o, ho, _⟩ := I.cell y c (up e)
        exact un.free c o ho (I.freeC y c (up e)) (by simp)
      pin := fun q hq => nomatch (show q ∈ ([] : List (Addr × Obj)) from hq)
      hok := e0.hok.kept kp, len := I.len }
/-- what the lambda's body reads, in its own context -/
def LamPE (X : Cx) (T : LamT) (k : Nat) (t : XK → TE) : Prop := ∀ (A : Around) (outer : List Env) (s : Shared) (H : Hp) (E : XK) (f c' : Addr), Room k (A.deeper (lamEnv X T.scope s.heap.objs.size f c')) → PE (lamCx X A outer s H E T.scope f c') T.body (t E)
/-- f() at s1; its maker stood so at s -/
theorem lam_run {A : Around} {outer : List Env} {E : XK} {T : LamT} {f : Addr} {k : Nat} {t : XK → TE} {Q : VK} (I : Inv X pins σ H s) (L : LamS2 X.N X.env.scope T) (B : LamB T) (e0 : Env0 X.prog X.w X.K X.mg X.base A outer s1 HZ) (hr : Room (k + 1) A)
    (un : Un (frs X.stack) [] H HZ s.heap s1.heap) (hb : LamPE X T k t) (hv : LamV (lq X) (lcl X T) HZ f T) (h : t E σ HZ Q) :
    codeAny (model X.prog X.w) A (.call (.ref f) ⟨[], []⟩) (L2.CR (L2.CX X.prog X.w) outer X.prog X.w HZ s1 Q E) s1 := by
  obtain ⟨c', dV, hf, hc, hD⟩ := hv
  obtain ⟨⟨doc, pm, ctv, of⟩, _, _⟩ := e0.hok f _ hf
  obtain ⟨⟨oc, vs, tq, hoc, hdc, hvc⟩, _, _⟩ := e0.hok c' _ hc
  have lim : s1.heap.NoLimit := e0.mod.nolimit.keeps fun b o e => (e0.bs b o e).1
  refine PySem.W.kla_callFunE hr.depth of rfl L.co L.gen rfl ⟨c', oc, vs, tq, rfl, hoc, hdc, hvc⟩ ?_
  have go : ∀ (bs : List (Str × Value)), (∀ y ∈ bs, T.scope.names.lookup y.1 = some .local) →
      wpAny (model X.prog X.w) A.in1 (newFunctionEnv T.scope mainGlobals (lcl X T) bs (lq X ++ ".<locals>.") (some f) (.ref c') none builtinsNs)
        (fun env s₂ => s₂.heap.NoLimit ∧ codeAny (model X.prog X.w) A (.expr T.body env) (L2.CR (L2.CX X.prog X.w) outer X.prog X.w HZ s1 Q E) s₂) (fun e s' => L2.CR (L2.CX X.prog X.w) outer X.prog X.w HZ s1 Q E (.error e) s') s1 := fun bs hbs => by
    refine wpAny_newFunctionEnv L.cell hbs (fun h₁ hns hsb => ⟨lim.fresh _ hsb, ?_⟩) L.kind
    show codeAny _ _ (.expr T.body (lamEnv X T.scope s1.heap.objs.size f c')) _ _
    have kp : ∀ b o, s1.heap.get? b = some o → h₁.get? b = some o := fun b o e => hsb.extBut b o (Nat.ne_of_lt (Heap.lt_size e)) (Heap.get?_push_of_some _ e)
    have J := lam_startV (E := E) (f := f) (c' := c') (tk := s1.toks + bs.length) I L e0 hr.hd un hns kp
    exact PySem.W.kla_codeExpr (wpAny_mono ((hb A outer s1 HZ E f c' (hr.deeper _)).run [] _ _ HZ Q J h) (fun v s' hq => let ⟨w', H', J', rv, q⟩ := hq; ⟨w', H', J'.os, J'.bare, J'.base, J'.hok, rv, q⟩) fun e s' hq => hq)
  unfold LamB at B
  rcases hD with ⟨ho, rfl⟩ | ⟨a, ta, ho, rfl, hta⟩
  · rw [ho] at B
    rw [B]
    exact wpAny_pure (go [] fun y hy => nomatch hy)
  · rw [ho] at B
    obtain ⟨k', b1, b2⟩ := B (lq X) (lcl X T) ta doc pm (.ref c') ctv
    obtain ⟨_, its, ri, oT, hoT, hcl, n, hdT⟩ := (show ObjOk X.prog X.w HZ s1.heap ta (.tup [.int 0]) from e0.hok ta _ hta)
    cases ri with
    | @cons _ v _ _ rv rn =>
      cases rn
      refine BindsTo.of_defaults (fd := PySem.W.kdv_fn "<lambda>" (lq X) T.par (.expr T.body) T.scope (lcl X T) (.ref ta) doc pm (.ref c') ctv) (binds := [(a, v)]) rfl hoT hdT b1 (b2 v) _ _ _ _ ?_
      refine go [(a, v)] fun y hy => ?_
      rw [List.mem_singleton.mp hy]
      exact L.par a ho
end
end OwnR
namespace OwnR
open PySem PySem.Spec PyProof.Rows L2 LamX
/-- the def that calls what it got (a: its parameter); TT: what it makes of the lambda's reading -/
def GivesV (P : Program) (w : World) (K : PySem.W.Frag) (mg : Str → Option Value) (base : Heap) (A : Around) (stack : List Env) (Ng : List Str) (x : Str) (sg : Scope) (g : Addr) (cdg : Value) (bg : List Stmt) (a : Str) (TT : (XK → Hp → VK → Prop) → Hp → VK → Prop) : Prop :=
  ∀ (f : Addr) (s : Shared) (H : Hp) (Q : VK) (Held : Hp → Prop) (tl : XK → Hp → VK → Prop),
    (∀ (W : WX) (pn : List (Addr × Obj)) (xe : Value → Shared → Prop) (E : XK) (p1 p2 : Pos), Takes ((cxOf L2.CX0 P w K mg base Ng x sg g cdg A stack s H L2.E0).tr pn xe) W → (∀ cls d σ' H', σ'.length = Ng.length → E cls d H' → W cls d σ' H') →
      PE ((cxOf L2.CX0 P w K mg base Ng x sg g cdg A stack s H L2.E0).tr pn xe) (.Call (.Name a p1) [] [] p2) (fun σZ HZ Q => σZ[0]? = some (some (.ref f)) ∧ Held HZ ∧ tl E HZ Q)) → Held H → TT tl H Q →
    ∃ t, PSs (cxOf L2.CX0 P w K mg base Ng x sg g cdg A stack s H L2.E0).nox bg t ∧ t { nx := fun _ H' => Q .non H', rt := Q } (L2.start Ng [.ref f]) H
/-- what is told of the def that calls -/
structure Teller (K : PySem.W.Frag) (mg : Str → Option Value) (x a : Str) (g : Addr) (Ng : List Str) (bg : List Stmt) (sg : Scope) (cdv : Value) : Prop where
  mgx : mg x = some (.ref g)
  k : PySem.W.keepIn K (.ref g) = true
  lk : ∃ (oc : Value) (od : Option Addr) (pg : Arguments) (dV kV doc pm ct : Value) (an : Option Addr) (osl : Array (Option Value)), K.lookup g = some ⟨oc, od, .func (PySem.W.fnOf x x pg bg sg dV kV doc pm an cdv ct), osl⟩ ∧ L2.Binds K (PySem.W.fnOf x x pg bg sg dV kV doc pm an cdv ct) [a] []
  cd : PySem.W.codeIn K cdv x = true
  sc : FnScope Ng [a] sg
  n0 : Ng[0]? = some a
  vis : Vis sg a
section
variable {X : Cx} {pins : List (Addr × Obj)} {σ : L2.St} {H : Hp} {s : Shared}
/-- told(f), called where the maker stands at s -/
theorem told_run {x a : Str} {g f : Addr} {Ng : List Str} {bg : List Stmt} {sg : Scope} {cdv : Value} {k : Nat} {T : LamT} {t : XK → TE} {TT : (XK → Hp → VK → Prop) → Hp → VK → Prop} {Q : VK} (I : Inv X pins σ H s) (W : Teller X.K X.mg x a g Ng bg sg cdv)
    (hG : GivesV X.prog X.w X.K X.mg X.base X.A X.stack Ng x sg g cdv bg a TT) (hr : Room (k + 2) X.A) (L : LamS2 X.N X.env.scope T) (B : LamB T) (hb : LamPE X T k t) (hv : LamV (lq X) (lcl X T) H f T) (h : TT (fun E H' Q' => t E σ H' Q') H Q)
    (hd : (a == ("__debug__" : Str)) = false) (hcd : (a == ("__classdict__" : Str)) = false) :
    codeAny (model X.prog X.w) X.A (.call (.ref g) ⟨[.ref f], []⟩) (L2.CR L2.CX0 X.stack X.prog X.w H s Q L2.E0) s := by
  obtain ⟨oc, od, pg, dV, kV, doc, pm, ct, an, osl, lk, hbind⟩ := W.lk
  refine run_ofS (N := Ng) (ps := [a]) (us := [.ref f]) (vs := [.ref f]) lk W.cd W.sc hr I.env0 (hbind s [.ref f] I.kIn rfl) (.cons rfl .nil) rfl fun hr' => ?_
  have act : ∀ (Wx : WX) (pn : List (Addr × Obj)) (xe : Value → Shared → Prop) (E : XK) (p1 p2 : Pos), Takes ((cxOf L2.CX0 X.prog X.w X.K X.mg X.base Ng x sg g cdv X.A X.stack s H L2.E0).tr pn xe) Wx → (∀ cls d σ' H', σ'.length = Ng.length → E cls d H' → Wx cls d σ' H') →
      PE ((cxOf L2.CX0 X.prog X.w X.K X.mg X.base Ng x sg g cdv X.A X.stack s H L2.E0).tr pn xe) (.Call (.Name a p1) [] [] p2) (fun σZ HZ Q => σZ[0]? = some (some (.ref f)) ∧ LamV (lq X) (lcl X T) HZ f T ∧ t E σ HZ Q) := by
    intro Wx pn xe E p1 p2 tk hW
    refine ⟨fun pinsZ sZ σZ HZ Q IZ hh => ?_⟩
    obtain ⟨hs, hvZ, ht⟩ := hh
    refine wpAny_Call_Name_kw (thn ((pe_var (pos := p1) (i := 0) W.n0 W.vis hd hcd).run pinsZ sZ σZ HZ (fun v H1 => v = .ref f ∧ H1 = HZ) IZ ⟨.ref f, hs, rfl, rfl⟩) fun u s2 ⟨v, H2, I2, r2, ev, eH⟩ => ?_)
    subst ev eH
    obtain rfl : u = Value.ref f := r2
    obtain ⟨c', dV', hf, _⟩ := id hvZ
    obtain ⟨⟨doc', pm', ctv', of⟩, _, _⟩ := I2.hok f _ hf
    refine PySem.W.callWith_F0 ⟨_, _, _, _, of⟩ ?_
    have rc := lam_run (E := E) (Q := Q) I L B I2.env0 hr' I2.base hb hvZ ht
    refine wpAny_call (codeAny_mono rc fun r s' hq => ?_)
    cases r with
    | error e => exact tk e s' (XE.of_call I2 (fun cls d H' h => hW cls d σZ H' I2.len h) hq)
    | ok fl =>
      cases fl with
      | ret u => exact I2.after hq
      | next => exact False.elim hq
      | brk => exact False.elim hq
      | cont => exact False.elim hq
  obtain ⟨t', ht', hq'⟩ := hG f s H Q (fun HZ => LamV (lq X) (lcl X T) HZ f T) (fun E H' Q' => t E σ H' Q') act hv h
  exact ⟨t', ht'.nox, hq'⟩
/-- told(e), e a lambda's value -/
def tTold (X : Cx) (k : Nat) (TT : (XK → Hp → VK → Prop) → Hp → VK → Prop) (te : TE) : TE := fun σ H Q => te σ H fun y H1 => ∃ (f : Addr) (T : LamT) (t : XK → TE), y = .ref f ∧ LamS2 X.N X.env.scope T ∧ LamB T ∧ LamPE X T k t ∧ LamV (lq X) (lcl X T) H1 f T ∧ TT (fun E H' Q' => t E σ H' Q') H1 Q
theorem pe_told {x a : Str} {g : Addr} {Ng : List Str} {bg : List Stmt} {sg : Scope} {cdv : Value} {k : Nat} {TT : (XK → Hp → VK → Prop) → Hp → VK → Prop} {e : Expr} {te : TE} {p pos : Pos} (W : Teller X.K X.mg x a g Ng bg sg cdv) (hg : Gl X x)
    (hG : GivesV X.prog X.w X.K X.mg X.base X.A X.stack Ng x sg g cdv bg a TT) (hr : Room (k + 2) X.A) (he : PE X e te) (hdb : (x == ("__debug__" : Str)) = false := by decide) (hd : (a == ("__debug__" : Str)) = false := by decide) (hcd : (a == ("__classdict__" : Str)) = false := by decide)
    (h1 : starEach [e] X.env = (false, eval e X.env) :: starEach [] X.env := by rfl) (h2 : (backTo pos (starEach [] X.env)).any (·.1) = false := by rfl) :
    PE X (.Call (.Name x p) [e] [] pos) (tTold X k TT te) := by
  refine ⟨fun pins s σ H Q I h => ?_⟩
  have ha : PA X [e] (tCons te tNil) := pa_cons he pa_nil h1
  refine wpAny_Call_Name_kw (ld_glob I hg W.mgx ?_ hdb)
  refine PySem.W.callWith_K (h₀ := X.base) I.ok.mod.kin W.k (thn (ha.run pos pins s σ H (fun vs H1 => ∃ (f : Addr) (T : LamT) (t : XK → TE), vs = [.ref f] ∧ LamS2 X.N X.env.scope T ∧ LamB T ∧ LamPE X T k t ∧ LamV (lq X) (lcl X T) H1 f T ∧ TT (fun E H' Q' => t E σ H' Q') H1 Q) I ?_) fun us s1 hs => ?_) h1 h2
  · show te σ H _
    have key : ∀ (Q1 Q2 : VK), Q1 = Q2 → te σ H Q1 → te σ H Q2 := fun _ _ z y => z ▸ y
    refine key _ _ (funext fun y => funext fun H1 => propext ⟨fun ⟨f, T, t, e, r⟩ => ⟨f, T, t, by rw [e], r⟩, fun ⟨f, T, t, e, r⟩ => ⟨f, T, t, by injection e, r⟩⟩) h
  · obtain ⟨vs, H1, I1, r, f, T, t, rfl, L, B, hb, hv, hT⟩ := hs
    obtain ⟨u, rfl, ru⟩ := r.one
    obtain rfl : u = Value.ref f := ru
    refine ⟨I1.kIn, wpAny_call (codeAny_mono (told_run I1 W hG hr L B hb hv hT hd hcd) fun r s2 hq => ?_)⟩
    cases r with
    | error e => exact (show False from hq).elim
    | ok fl =>
      cases fl with
      | ret u => exact I1.after hq
      | next => exact False.elim hq
      | brk => exact False.elim hq
      | cont => exact False.elim hq
end
end OwnR

set_option Elab.async false
set_option linter.all false
set_option maxRecDepth 100000
set_option maxHeartbeats 2000000
/-! Caught errors of own classes, with a dict of their own or without one. -/
namespace OwnR
open PySem PySem.Spec PyProof.Rows L2 LamX
/-- what an own class of errors says of itself -/
structure ErrC (K : PySem.W.Frag) (C : Addr) : Prop where
  cl : (PySem.W.clsIn K C).isSome = true
  ga : PySem.W.findIn K (.ref C) "__getattribute__" = some (some (.builtin "BaseException.__getattribute__"))
  gg : PySem.W.findIn K (.ref C) "__getattr__" = some none
  sub : PySem.W.subIn K (.ref C) (.type "BaseException") = some true
  hd : PySem.W.hasDictIn K C = true
  cat : PySem.W.findIn K (.ref C) "__class__" = some (some (.builtin "object.__class__"))
  sp : PySem.W.specialIn K (.builtin "object.__class__") "__get__" = some (some (.builtin "getset_descriptor.__get__"))
  tk : PySem.W.takesIn K (.builtin "object.__class__") = some true
  mro : PySem.W.mroIn K C (.type "object") = some true
  ix : PySem.W.findIn K (.ref C) "index" = some none
  nm : PySem.W.findIn K (.ref C) "name" = some none
theorem ErrC.xf {K : PySem.W.Frag} {C : Addr} (h : ErrC K C) : XfC K C := ⟨h.ga, h.gg, h.sub, h.hd⟩
/-- the error's own dict, if it has one, is known -/
def DictK (H : Hp) (d : Option Addr) : Prop := d = none ∨ ∃ dd fs, d = some dd ∧ H dd = some (.xd fs)
theorem DictK.ext {H H' : Hp} {d : Option Addr} (h : DictK H d) (e : ExtN H H') : DictK H' d := by
  rcases h with h | ⟨dd, fs, h1, h2⟩
  · exact .inl h
  · exact .inr ⟨dd, fs, h1, e _ _ h2 (fun _ z => nomatch z)⟩
/-- isinstance(e, c), e the error that the suite holds -/
def rIsV (K : PySem.W.Frag) (D a : Addr) (d : Option Addr) : List V → Hp → VK → Prop := fun xs H Q => ∃ (c : V) (cv : Value) (b : Bool), xs = [.ref a, c] ∧ (∀ u, RelV c u → u = cv) ∧ PySem.W.kitOne K (.ref D) cv = some b ∧ DictK H d ∧ Q (.bl b) H
theorem call_isV {X : Cx} {a D : Addr} {d : Option Addr} {oe : Obj} {pn : List (Addr × Obj)} (C : ErrC X.K D) (hz : Zc (.ref D) d oe) (hf : ∃ vs, oe.data = .fields vs) : CallR (X.suite a ((a, oe) :: pn)) (.builtin "isinstance") (rIsV X.K D a d) := by
  intro pins s σ H xs us Q I r h
  obtain ⟨c, cv, b, rfl, hcv, e, hd, q⟩ := h
  obtain ⟨u1, ur, rfl⟩ : ∃ u1 ur, us = u1 :: ur := by cases r; exact ⟨_, _, rfl⟩
  cases r with
  | cons rx rr =>
    obtain ⟨u2, rfl⟩ : ∃ u2, ur = [u2] := by
      cases rr with
      | cons _ rr => cases rr; exact ⟨_, rfl⟩
    cases rr with
    | cons rt _ =>
      cases rx
      have ec := hcv _ rt
      subst ec
      obtain ⟨hget, _⟩ := I.pin (a, oe) (List.mem_append.mpr (.inl List.mem_cons_self))
      obtain ⟨vs, hv⟩ := hf
      obtain ⟨oc, od, oda, osl⟩ := oe
      obtain ⟨h1, h2⟩ := hz
      dsimp only at h1 h2 hv
      subst h1 h2 hv
      rcases hd with hd | ⟨dd, fs, hd, hdd⟩
      · subst hd
        exact PySem.W.kia_one (PySem.W.kitx_exc (od := none) C.cl C.ga C.gg C.sub C.cat C.sp C.tk C.mro) I.kIn ⟨hget, rfl, rfl, trivial⟩ e (fun z => nomatch z) fun tk => ⟨.bl b, H, I.kept (t' := tk) fun _ _ z => z, rfl, q⟩
      · subst hd
        obtain ⟨mA, hns, _⟩ := (show ObjOk X.prog X.w H s.heap dd (.xd fs) from I.hok dd _ hdd)
        obtain ⟨o1, ho1, _⟩ := lookIn_ns hns
        exact PySem.W.kia_one (PySem.W.kitx_exc (od := some o1) C.cl C.ga C.gg C.sub C.cat C.sp C.tk C.mro) I.kIn ⟨hget, rfl, rfl, ho1⟩ e (fun z => nomatch z) fun tk => ⟨.bl b, H, I.kept (t' := tk) fun _ _ z => z, rfl, q⟩
/-! ### list.count of flat things -/
def rCntV (K : PySem.W.Frag) : V → List V → Hp → VK → Prop := fun x xs H Q => ∃ (p : Addr) (ys : List V) (y : V), x = .ref p ∧ xs = [y] ∧ SqL K H p ys ∧ flatV y = true ∧ ys.all flatV = true ∧ Q (.int ((ys.countP fun z => eqV z y : Nat) : Int)) H
theorem countU {y : V} : ∀ {ys : List V} {us : List Value}, Vals ys us → ys.all flatV = true → us.countP (eqU y) = ys.countP fun z => eqV z y
  | _, _, .nil, _ => rfl
  | z :: ys, u :: us, .cons r t, f => by
    obtain ⟨f1, f2⟩ := Bool.and_eq_true_iff.mp f
    rw [List.countP_cons, List.countP_cons, countU t f2, eqU_of r f1]
theorem mt_countV {X : Cx} : MtR X "list.count" (rCntV X.K) := by
  intro pins s σ H x xs v us Q I rx rxs h
  obtain ⟨p, ys, y, rfl, rfl, hs, fy, fys, q⟩ := h
  cases (show v = Value.ref p from rx)
  obtain ⟨u, rfl, ru⟩ := rxs.one
  obtain ⟨its, rv, ⟨⟨cls, dd, data, sl⟩, n, ho, hc, hdn, hd⟩, hlen⟩ := I.list hs
  dsimp only at hc hd
  subst hc hd
  have key := SeqAt.list_countAt p its.toArray n dd sl u (eqU y)
  refine call_meets PySem.F.slot_list_count ⟨_, ho, rfl⟩ PySem.F.entry_list_count (PySem.F.args_list_count_2 _ _) key ⟨ho, fun w hw => mem_eqAt ru fy rv fys w (by simpa using hw), ?_⟩
  refine ⟨.int ((its.toArray.toList.countP (eqU y) : Nat) : Int), H, I.tok _, ⟨s.toks, rfl⟩, ?_⟩
  rw [show its.toArray.toList = its by simp, countU rv fys]
  exact q
end OwnR

set_option Elab.async false
set_option linter.all false
set_option maxRecDepth 100000
set_option maxHeartbeats 4000000
/-! _law_raised: None, or what the error is (the laws k41 to k48). -/
namespace Sl
open PySem PySem.Spec L2 OwnR LamX
structure RsTab (mg : Str → Option Value) (CE c0 c1 c2 c3 c4 c5 c6 c7 c8 c9 c10 c11 c12 c13 : Addr) : Prop where
  gE : mg "RoadError" = some (.ref CE)
  g0 : mg "InvalidOperation" = some (.ref c0)
  g1 : mg "InvalidCars" = some (.ref c1)
  g2 : mg "InvalidRoad" = some (.ref c2)
  g3 : mg "InvalidArrivals" = some (.ref c3)
  g4 : mg "UnknownSection" = some (.ref c4)
  g5 : mg "DecodeError" = some (.ref c5)
  g6 : mg "NotationError" = some (.ref c6)
  g7 : mg "UnknownCar" = some (.ref c7)
  g8 : mg "InvalidName" = some (.ref c8)
  g9 : mg "InvalidNumber" = some (.ref c9)
  g10 : mg "TooManyCars" = some (.ref c10)
  g11 : mg "InvalidKind" = some (.ref c11)
  g12 : mg "Contradiction" = some (.ref c12)
  g13 : mg "InvalidCount" = some (.ref c13)
  gv : mg "ValueError" = none
/-- C is the j-th of them -/
structure RsJ (K : PySem.W.Frag) (CE c0 c1 c2 c3 c4 c5 c6 c7 c8 c9 c10 c11 c12 c13 C : Addr) (j : Nat) : Prop where
  e : ErrC K C
  ofs : PySem.W.findIn K (.ref C) "offset" = some none
  rw : PySem.W.findIn K (.ref C) "row" = some none
  wd : PySem.W.findIn K (.ref C) "word" = some none
  x : PySem.W.exmOne K (.ref C) (.ref CE) = some true
  k0 : PySem.W.kitOne K (.ref C) (.ref c0) = some (decide (j = 0))
  k1 : PySem.W.kitOne K (.ref C) (.ref c1) = some (decide (j = 1))
  k2 : PySem.W.kitOne K (.ref C) (.ref c2) = some (decide (j = 2))
  k3 : PySem.W.kitOne K (.ref C) (.ref c3) = some (decide (j = 3))
  k4 : PySem.W.kitOne K (.ref C) (.ref c4) = some (decide (j = 4))
  k5 : PySem.W.kitOne K (.ref C) (.ref c5) = some (decide (j = 5))
  k6 : PySem.W.kitOne K (.ref C) (.ref c6) = some (decide (j = 6))
  k7 : PySem.W.kitOne K (.ref C) (.ref c7) = some (decide (j = 7))
  k8 : PySem.W.kitOne K (.ref C) (.ref c8) = some (decide (j = 8))
  k9 : PySem.W.kitOne K (.ref C) (.ref c9) = some (decide (j = 9))
  k10 : PySem.W.kitOne K (.ref C) (.ref c10) = some (decide (j = 10))
  k11 : PySem.W.kitOne K (.ref C) (.ref c11) = some (decide (j = 11))
  k12 : PySem.W.kitOne K (.ref C) (.ref c12) = some (decide (j = 12))
  k13 : PySem.W.kitOne K (.ref C) (.ref c13) = some (decide (j = 13))
  kv : PySem.W.kitOne K (.ref C) (.type "ValueError") = some true
def raiV (j : Nat) (v w : V) : List V := match j with
  | 0 => [.str "operation", v]
  | 1 => [.str "cars", v]
  | 2 => [.str "road", v]
  | 3 => [.str "arrivals", v]
  | 4 => [.str "nosection", v]
  | 5 => [.str "decode", v]
  | 6 => [.str "notation", v, w]
  | 7 => [.str "nocar", v]
  | 8 => [.str "name"]
  | 9 => [.str "number"]
  | 10 => [.str "many"]
  | 11 => [.str "kind"]
  | 12 => [.str "contradiction"]
  | _ => [.str "count"]
def fldP : Nat → List (Str × V) → V → V → Prop
  | 0, fs, v, w => fs.lookup ("index" : Str) = some v
  | 1, fs, v, w => fs.lookup ("index" : Str) = some v
  | 2, fs, v, w => fs.lookup ("index" : Str) = some v
  | 3, fs, v, w => fs.lookup ("index" : Str) = some v
  | 4, fs, v, w => fs.lookup ("index" : Str) = some v
  | 5, fs, v, w => fs.lookup ("offset" : Str) = some v
  | 6, fs, v, w => fs.lookup ("row" : Str) = some v ∧ fs.lookup ("word" : Str) = some w
  | 7, fs, v, w => fs.lookup ("name" : Str) = some v
  | _, _, _, _ => True
def fldV (j : Nat) (d : Option Addr) (H : Hp) (v w : V) : Prop := 8 ≤ j ∨ ∃ dd fs, d = some dd ∧ H dd = some (.xd fs) ∧ fldP j fs v w
def raisedR (K : PySem.W.Frag) (CE c0 c1 c2 c3 c4 c5 c6 c7 c8 c9 c10 c11 c12 c13 : Addr) (cls : Value) (d : Option Addr) (H : Hp) (Q : VK) : Prop :=
  ∃ (C : Addr) (j : Nat) (v w : V), cls = .ref C ∧ RsJ K CE c0 c1 c2 c3 c4 c5 c6 c7 c8 c9 c10 c11 c12 c13 C j ∧ (j = 7 ∨ j = 9) ∧ DictK H d ∧ fldV j d H v w ∧ ∀ H' p, Same H H' → H' p = some (.tup (raiV j v w)) → Q (.ref p) H'
def TRai (K : PySem.W.Frag) (CE c0 c1 c2 c3 c4 c5 c6 c7 c8 c9 c10 c11 c12 c13 : Addr) : (XK → Hp → VK → Prop) → Hp → VK → Prop := fun tl H Q => tl (fun cls d H' => raisedR K CE c0 c1 c2 c3 c4 c5 c6 c7 c8 c9 c10 c11 c12 c13 cls d H' Q) H (fun _ H' => Q .non H')
def nRaised : List Str := ["_law_work", "e", "_law_kinds", "_law_at", "_law_words", "_law_word"]
theorem scRaised : FnScope nRaised ["_law_work"] (defScope sRaised) := ⟨rfl, rfl, rfl, by decide +kernel, rfl, by decide +kernel, by decide +kernel⟩
def tIsV (K : PySem.W.Frag) (C a : Addr) (d : Option Addr) (c : V) : TE := tCB (rIsV K C a d) (tCons (tVar 1) (tCons (tC c) tNil))
def tSuite (K : PySem.W.Frag) (c0 c1 c2 c3 c4 c5 c6 c7 c8 c9 c10 c11 c12 c13 C a : Addr) (d : Option Addr) : TS :=
  (tSeq (tAsg (tLst (tCons (tIsV K C a d (.ref c0)) (tCons (tIsV K C a d (.ref c1)) (tCons (tIsV K C a d (.ref c2)) tNil)))) (gName 2)) (tSeq (tAsg (tOp rCat (tVar 2) (tLst (tCons (tIsV K C a d (.ref c3)) (tCons (tIsV K C a d (.ref c4)) (tCons (tIsV K C a d (.ref c5)) tNil))))) (gName 2)) (tSeq (tAsg (tOp rCat (tVar 2) (tLst (tCons (tIsV K C a d (.ref c6)) (tCons (tIsV K C a d (.ref c7)) (tCons (tIsV K C a d (.ref c8)) tNil))))) (gName 2)) (tSeq (tAsg (tOp rCat (tVar 2) (tLst (tCons (tIsV K C a d (.ref c9)) (tCons (tIsV K C a d (.ref c10)) (tCons (tIsV K C a d (.ref c11)) tNil))))) (gName 2)) (tSeq (tAsg (tOp rCat (tVar 2) (tLst (tCons (tIsV K C a d (.ref c12)) (tCons (tIsV K C a d (.ref c13)) tNil)))) (gName 2)) (tSeq (tIfS (tOr (tTest (tOp rNe (tBM K "list" (rCntV K) (tVar 2) (tCons (tC (.bl true)) tNil)) (tC (.int 1)))) (tNot (tB (tIsV K C a d (.ty "ValueError"))))) (tRet (tTup (tCons (tC (.str "other")) tNil))) tNext) (tSeq (tAsg (tBM K "list" (rIndex K) (tVar 2) (tCons (tC (.bl true)) tNil)) (gName 3)) (tSeq (tAsg (tLst (tCons (tC (.str "operation")) (tCons (tC (.str "cars")) (tCons (tC (.str "road")) (tCons (tC (.str "arrivals")) (tCons (tC (.str "nosection")) (tCons (tC (.str "decode")) (tCons (tC (.str "notation")) (tCons (tC (.str "nocar")) (tCons (tC (.str "name")) (tCons (tC (.str "number")) tNil))))))))))) (gName 4)) (tSeq (tAsg (tOp (rIxL K) (tOp rCat (tVar 4) (tLst (tCons (tC (.str "many")) (tCons (tC (.str "kind")) (tCons (tC (.str "contradiction")) (tCons (tC (.str "count")) tNil)))))) (tVar 3)) (gName 5)) (tSeq (tIfS (tTest (tOp (rI0 fun i j => .bl (decide (i < j))) (tVar 3) (tC (.int 5)))) (tRet (tTup (tCons (tVar 5) (tCons (tXf a (.ref C) d C "index" (tVar 1)) tNil)))) tNext) (tSeq (tIfS (tTest (tOp rEq (tVar 3) (tC (.int 5)))) (tRet (tTup (tCons (tVar 5) (tCons (tXf a (.ref C) d C "offset" (tVar 1)) tNil)))) tNext) (tSeq (tIfS (tTest (tOp rEq (tVar 3) (tC (.int 6)))) (tRet (tTup (tCons (tVar 5) (tCons (tXf a (.ref C) d C "row" (tVar 1)) (tCons (tXf a (.ref C) d C "word" (tVar 1)) tNil))))) tNext) (tRet (tIf (tTest (tOp rEq (tVar 3) (tC (.int 7)))) (tTup (tCons (tVar 5) (tCons (tXf a (.ref C) d C "name" (tVar 1)) tNil))) (tTup (tCons (tVar 5) tNil))))))))))))))))
theorem pss_ex {X : Cx} {l : List Stmt} {α : Type} {t : α → TS} {p : α → Prop} (h : ∀ a, p a → PSs X l (t a)) : PSs X l (fun D σ H => ∃ a, p a ∧ t a D σ H) := ⟨fun pins s σ H D I ⟨a, pa, q⟩ => (h a pa).run pins s σ H D I q⟩
theorem raised_gives {P : Program} {w : World} {K : PySem.W.Frag} {mg : Str → Option Value} {base : Heap} {A : Around} {stack : List Env} {g : Addr} {cdg : Value} {CE c0 c1 c2 c3 c4 c5 c6 c7 c8 c9 c10 c11 c12 c13 : Addr} (M : Mg mg) (W : RsTab mg CE c0 c1 c2 c3 c4 c5 c6 c7 c8 c9 c10 c11 c12 c13) :
    GivesV P w K mg base A stack nRaised "_law_raised" (defScope sRaised) g cdg (defBody sRaised) "_law_work" (TRai K CE c0 c1 c2 c3 c4 c5 c6 c7 c8 c9 c10 c11 c12 c13) := by
  intro f s H Q Held tl act hH h
  have nd := scRaised.nd
  refine ⟨_, pss_cons (ps_try_as (X := (cxOf L2.CX0 P w K mg base nRaised "_law_raised" (defScope sRaised) g cdg A stack s H L2.E0).nox) (c := .ref CE) (i := 1)
      (tb := fun W D σ H => ∃ Ech : XK, (∀ cls d σ' H', σ'.length = nRaised.length → Ech cls d H' → W cls d σ' H') ∧ σ[0]? = some (some (.ref f)) ∧ Held H ∧ tl Ech H (fun _ H1 => D.nx σ H1))
      (ts := fun a cls d D σ H => ∃ q : Addr × Nat, (cls = .ref q.1 ∧ RsJ K CE c0 c1 c2 c3 c4 c5 c6 c7 c8 c9 c10 c11 c12 c13 q.1 q.2) ∧ tSuite K c0 c1 c2 c3 c4 c5 c6 c7 c8 c9 c10 c11 c12 c13 q.1 a d D σ H)
      rfl rfl nd rfl rfl ⟨rfl, by decide, .inl W.gE⟩ LamX.takes0 (fun W pn xe tk _ => ⟨fun pins s' σ H' D I h' => ?_⟩) (fun a oe cls d pn hz hf => ?_)) (pss_one (ps_ret pe_non)), ?_⟩
  · obtain ⟨Ech, hW, h1, h2, h3⟩ := h'
    exact (pss_one (ps_expr (act W pn xe Ech _ _ tk hW))).run pins s' σ H' D I ⟨h1, h2, h3⟩
  · refine pss_ex (p := fun q : Addr × Nat => cls = .ref q.1 ∧ RsJ K CE c0 c1 c2 c3 c4 c5 c6 c7 c8 c9 c10 c11 c12 c13 q.1 q.2) (t := fun q => tSuite K c0 c1 c2 c3 c4 c5 c6 c7 c8 c9 c10 c11 c12 c13 q.1 a d) fun q hq => ?_
    have hz2 : Zc (.ref q.1) d oe := by rw [← hq.1]; exact hz
    have J := hq.2
    exact (pss_cons (ps_set (i := 2) nd rfl (.inl rfl) (pe_lst (pa_cons (pe_callB (call_isV J.e hz2 hf) (by rfl) M.isinstance boot_isinstance (pa_cons (pv 1) (pa_cons (pe_glob (v := .ref c0) (by rfl) W.g0 rfl) pa_nil))) (pa_cons (pe_callB (call_isV J.e hz2 hf) (by rfl) M.isinstance boot_isinstance (pa_cons (pv 1) (pa_cons (pe_glob (v := .ref c1) (by rfl) W.g1 rfl) pa_nil))) (pa_cons (pe_callB (call_isV J.e hz2 hf) (by rfl) M.isinstance boot_isinstance (pa_cons (pv 1) (pa_cons (pe_glob (v := .ref c2) (by rfl) W.g2 rfl) pa_nil))) pa_nil))))) (pss_cons (ps_set (i := 2) nd rfl (.inl rfl) (pe_op op_cat (pv 2) (pe_lst (pa_cons (pe_callB (call_isV J.e hz2 hf) (by rfl) M.isinstance boot_isinstance (pa_cons (pv 1) (pa_cons (pe_glob (v := .ref c3) (by rfl) W.g3 rfl) pa_nil))) (pa_cons (pe_callB (call_isV J.e hz2 hf) (by rfl) M.isinstance boot_isinstance (pa_cons (pv 1) (pa_cons (pe_glob (v := .ref c4) (by rfl) W.g4 rfl) pa_nil))) (pa_cons (pe_callB (call_isV J.e hz2 hf) (by rfl) M.isinstance boot_isinstance (pa_cons (pv 1) (pa_cons (pe_glob (v := .ref c5) (by rfl) W.g5 rfl) pa_nil))) pa_nil)))))) (pss_cons (ps_set (i := 2) nd rfl (.inl rfl) (pe_op op_cat (pv 2) (pe_lst (pa_cons (pe_callB (call_isV J.e hz2 hf) (by rfl) M.isinstance boot_isinstance (pa_cons (pv 1) (pa_cons (pe_glob (v := .ref c6) (by rfl) W.g6 rfl) pa_nil))) (pa_cons (pe_callB (call_isV J.e hz2 hf) (by rfl) M.isinstance boot_isinstance (pa_cons (pv 1) (pa_cons (pe_glob (v := .ref c7) (by rfl) W.g7 rfl) pa_nil))) (pa_cons (pe_callB (call_isV J.e hz2 hf) (by rfl) M.isinstance boot_isinstance (pa_cons (pv 1) (pa_cons (pe_glob (v := .ref c8) (by rfl) W.g8 rfl) pa_nil))) pa_nil)))))) (pss_cons (ps_set (i := 2) nd rfl (.inl rfl) (pe_op op_cat (pv 2) (pe_lst (pa_cons (pe_callB (call_isV J.e hz2 hf) (by rfl) M.isinstance boot_isinstance (pa_cons (pv 1) (pa_cons (pe_glob (v := .ref c9) (by rfl) W.g9 rfl) pa_nil))) (pa_cons (pe_callB (call_isV J.e hz2 hf) (by rfl) M.isinstance boot_isinstance (pa_cons (pv 1) (pa_cons (pe_glob (v := .ref c10) (by rfl) W.g10 rfl) pa_nil))) (pa_cons (pe_callB (call_isV J.e hz2 hf) (by rfl) M.isinstance boot_isinstance (pa_cons (pv 1) (pa_cons (pe_glob (v := .ref c11) (by rfl) W.g11 rfl) pa_nil))) pa_nil)))))) (pss_cons (ps_set (i := 2) nd rfl (.inl rfl) (pe_op op_cat (pv 2) (pe_lst (pa_cons (pe_callB (call_isV J.e hz2 hf) (by rfl) M.isinstance boot_isinstance (pa_cons (pv 1) (pa_cons (pe_glob (v := .ref c12) (by rfl) W.g12 rfl) pa_nil))) (pa_cons (pe_callB (call_isV J.e hz2 hf) (by rfl) M.isinstance boot_isinstance (pa_cons (pv 1) (pa_cons (pe_glob (v := .ref c13) (by rfl) W.g13 rfl) pa_nil))) pa_nil))))) (pss_cons (ps_if (PW.pt (pw_or (pt_cmpR op_ne (pe_bm PySem.F.plainAttrs_list PySem.F.slot_list_count PySem.F.type_list_count mt_countV (pv 2) (pa_cons pe_bl pa_nil)) pe_int (nomark _)) (pw_or1 (pt_not (pt_val (pe_callB (call_isV J.e hz2 hf) (by rfl) M.isinstance boot_isinstance (pa_cons (pv 1) (pa_cons (pe_bltn (v := .ty "ValueError") (by rfl) W.gv PyProof.Rows.Boot.«ValueError» rfl) pa_nil)))))))) (pss_one (ps_ret (pe_tup (pa_cons pe_str pa_nil)))) pss_nil) (pss_cons (ps_set (i := 3) nd rfl (.inl rfl) (pe_bm PySem.F.plainAttrs_list PySem.F.slot_list_index PySem.F.type_list_index mt_index (pv 2) (pa_cons pe_bl pa_nil))) (pss_cons (ps_set (i := 4) nd rfl (.inl rfl) (pe_lst (pa_cons pe_str (pa_cons pe_str (pa_cons pe_str (pa_cons pe_str (pa_cons pe_str (pa_cons pe_str (pa_cons pe_str (pa_cons pe_str (pa_cons pe_str (pa_cons pe_str pa_nil)))))))))))) (pss_cons (ps_set (i := 5) nd rfl (.inl rfl) (pe_ix ix_list (pe_op op_cat (pv 4) (pe_lst (pa_cons pe_str (pa_cons pe_str (pa_cons pe_str (pa_cons pe_str pa_nil)))))) (pv 3) (fun _ _ => rfl))) (pss_cons (ps_if (pt_cmpR op_lt (pv 3) pe_int (nomark _)) (pss_one (ps_ret (pe_tup (pa_cons (pv 5) (pa_cons (pe_xf J.e.xf J.e.ix hz2 hf (pv 1)) pa_nil))))) pss_nil) (pss_cons (ps_if (pt_cmpR op_eq (pv 3) pe_int (nomark _)) (pss_one (ps_ret (pe_tup (pa_cons (pv 5) (pa_cons (pe_xf J.e.xf J.ofs hz2 hf (pv 1)) pa_nil))))) pss_nil) (pss_cons (ps_if (pt_cmpR op_eq (pv 3) pe_int (nomark _)) (pss_one (ps_ret (pe_tup (pa_cons (pv 5) (pa_cons (pe_xf J.e.xf J.rw hz2 hf (pv 1)) (pa_cons (pe_xf J.e.xf J.wd hz2 hf (pv 1)) pa_nil)))))) pss_nil) (pss_one (ps_ret (pe_ifExp (pt_cmpR op_eq (pv 3) pe_int (nomark _)) (pe_tup (pa_cons (pv 5) (pa_cons (pe_xf J.e.xf J.e.nm hz2 hf (pv 1)) pa_nil))) (pe_tup (pa_cons (pv 5) pa_nil)))))))))))))))))
  · refine ⟨fun cls d H' => raisedR K CE c0 c1 c2 c3 c4 c5 c6 c7 c8 c9 c10 c11 c12 c13 cls d H' Q, ?_, rfl, hH, h⟩
    rintro cls d σ' H1 hl ⟨C, j, v, w', rfl, J, hj, hd, hf, hQ⟩
    obtain ⟨x0, x1, x2, x3, x4, x5, rfl⟩ : ∃ x0 x1 x2 x3 x4 x5, σ' = [x0, x1, x2, x3, x4, x5] := by
      match σ', hl with
      | [x0, x1, x2, x3, x4, x5], _ => exact ⟨x0, x1, x2, x3, x4, x5, rfl⟩
    refine ⟨true, J.x, fun _ a ha => ⟨(C, j), ⟨rfl, J⟩, ?_⟩, fun z => nomatch z⟩
    show tSuite K c0 c1 c2 c3 c4 c5 c6 c7 c8 c9 c10 c11 c12 c13 C a d _ _ H1
    have dk : ∀ {H2 : Hp}, Same H1 H2 → DictK H2 d := fun e => hd.ext (ExtN.same e)
    have isv : ∀ {σ : L2.St} {H2 : Hp} {c : V} {cv : Value} {b : Bool} {Q2 : VK}, σ[1]? = some (some (.ref a)) → Same H1 H2 → (∀ u, RelV c u → u = cv) → PySem.W.kitOne K (.ref C) cv = some b → Q2 (.bl b) H2 → tIsV K C a d c σ H2 Q2 :=
      fun hσ e hc hk hq => ⟨_, hσ, _, _, _, rfl, hc, hk, dk e, hq⟩
    unfold tSuite
    rcases hj with rfl | rfl
    · skip
      have J0 : PySem.W.kitOne K (.ref C) (.ref c0) = some false := J.k0
      have J1 : PySem.W.kitOne K (.ref C) (.ref c1) = some false := J.k1
      have J2 : PySem.W.kitOne K (.ref C) (.ref c2) = some false := J.k2
      have J3 : PySem.W.kitOne K (.ref C) (.ref c3) = some false := J.k3
      have J4 : PySem.W.kitOne K (.ref C) (.ref c4) = some false := J.k4
      have J5 : PySem.W.kitOne K (.ref C) (.ref c5) = some false := J.k5
      have J6 : PySem.W.kitOne K (.ref C) (.ref c6) = some false := J.k6
      have J7 : PySem.W.kitOne K (.ref C) (.ref c7) = some true := J.k7
      have J8 : PySem.W.kitOne K (.ref C) (.ref c8) = some false := J.k8
      have J9 : PySem.W.kitOne K (.ref C) (.ref c9) = some false := J.k9
      have J10 : PySem.W.kitOne K (.ref C) (.ref c10) = some false := J.k10
      have J11 : PySem.W.kitOne K (.ref C) (.ref c11) = some false := J.k11
      have J12 : PySem.W.kitOne K (.ref C) (.ref c12) = some false := J.k12
      have J13 : PySem.W.kitOne K (.ref C) (.ref c13) = some false := J.k13
      refine isv rfl (Same.refl _) (fun u e => e) J0 (isv rfl (Same.refl _) (fun u e => e) J1 (isv rfl (Same.refl _) (fun u e => e) J2 (⟨by show 3 ≤ sizeLine; decide, fun p1 hp1 => ?_⟩)))
      have s1 := newS hp1 (.lst [.bl false, .bl false, .bl false])
      have l1 : upd H1 p1 (.lst [.bl false, .bl false, .bl false]) p1 = some (.lst [.bl false, .bl false, .bl false]) := upd_same
      generalize upd H1 p1 (.lst [.bl false, .bl false, .bl false]) = G1 at s1 l1 ⊢
      refine ⟨_, rfl, isv rfl s1 (fun u e => e) J3 (isv rfl s1 (fun u e => e) J4 (isv rfl s1 (fun u e => e) J5 (⟨by show 3 ≤ sizeLine; decide, fun q1 hq1 => ?_⟩)))⟩
      have y1 := newS hq1 (.lst [.bl false, .bl false, .bl false])
      have z1 : upd G1 q1 (.lst [.bl false, .bl false, .bl false]) q1 = some (.lst [.bl false, .bl false, .bl false]) := upd_same
      have w1 := y1 _ _ l1
      have x1 := s1.trans y1
      generalize upd G1 q1 (.lst [.bl false, .bl false, .bl false]) = F1 at y1 z1 w1 x1 ⊢
      refine ⟨p1, q1, [.bl false, .bl false, .bl false], [.bl false, .bl false, .bl false], rfl, rfl, w1, z1, by show 6 ≤ sizeLine; decide, fun p2 hp2 => ?_⟩
      have s2 := x1.trans (newS hp2 (.lst ([.bl false, .bl false, .bl false] ++ [.bl false, .bl false, .bl false])))
      have l2 : upd F1 p2 (.lst ([.bl false, .bl false, .bl false] ++ [.bl false, .bl false, .bl false])) p2 = some (.lst [.bl false, .bl false, .bl false, .bl false, .bl false, .bl false]) := upd_same
      generalize upd F1 p2 (.lst ([.bl false, .bl false, .bl false] ++ [.bl false, .bl false, .bl false])) = G2 at s2 l2 ⊢
      refine ⟨_, rfl, isv rfl s2 (fun u e => e) J6 (isv rfl s2 (fun u e => e) J7 (isv rfl s2 (fun u e => e) J8 (⟨by show 3 ≤ sizeLine; decide, fun q2 hq2 => ?_⟩)))⟩
      have y2 := newS hq2 (.lst [.bl false, .bl true, .bl false])
      have z2 : upd G2 q2 (.lst [.bl false, .bl true, .bl false]) q2 = some (.lst [.bl false, .bl true, .bl false]) := upd_same
      have w2 := y2 _ _ l2
      have x2 := s2.trans y2
      generalize upd G2 q2 (.lst [.bl false, .bl true, .bl false]) = F2 at y2 z2 w2 x2 ⊢
      refine ⟨p2, q2, [.bl false, .bl false, .bl false, .bl false, .bl false, .bl false], [.bl false, .bl true, .bl false], rfl, rfl, w2, z2, by show 9 ≤ sizeLine; decide, fun p3 hp3 => ?_⟩
      have s3 := x2.trans (newS hp3 (.lst ([.bl false, .bl false, .bl false, .bl false, .bl false, .bl false] ++ [.bl false, .bl true, .bl false])))
      have l3 : upd F2 p3 (.lst ([.bl false, .bl false, .bl false, .bl false, .bl false, .bl false] ++ [.bl false, .bl true, .bl false])) p3 = some (.lst [.bl false, .bl false, .bl false, .bl false, .bl false, .bl false, .bl false, .bl true, .bl false]) := upd_same
      generalize upd F2 p3 (.lst ([.bl false, .bl false, .bl false, .bl false, .bl false, .bl false] ++ [.bl false, .bl true, .bl false])) = G3 at s3 l3 ⊢
      refine ⟨_, rfl, isv rfl s3 (fun u e => e) J9 (isv rfl s3 (fun u e => e) J10 (isv rfl s3 (fun u e => e) J11 (⟨by show 3 ≤ sizeLine; decide, fun q3 hq3 => ?_⟩)))⟩
      have y3 := newS hq3 (.lst [.bl false, .bl false, .bl false])
      have z3 : upd G3 q3 (.lst [.bl false, .bl false, .bl false]) q3 = some (.lst [.bl false, .bl false, .bl false]) := upd_same
      have w3 := y3 _ _ l3
      have x3 := s3.trans y3
      generalize upd G3 q3 (.lst [.bl false, .bl false, .bl false]) = F3 at y3 z3 w3 x3 ⊢
      refine ⟨p3, q3, [.bl false, .bl false, .bl false, .bl false, .bl false, .bl false, .bl false, .bl true, .bl false], [.bl false, .bl false, .bl false], rfl, rfl, w3, z3, by show 12 ≤ sizeLine; decide, fun p4 hp4 => ?_⟩
      have s4 := x3.trans (newS hp4 (.lst ([.bl false, .bl false, .bl false, .bl false, .bl false, .bl false, .bl false, .bl true, .bl false] ++ [.bl false, .bl false, .bl false])))
      have l4 : upd F3 p4 (.lst ([.bl false, .bl false, .bl false, .bl false, .bl false, .bl false, .bl false, .bl true, .bl false] ++ [.bl false, .bl false, .bl false])) p4 = some (.lst [.bl false, .bl false, .bl false, .bl false, .bl false, .bl false, .bl false, .bl true, .bl false, .bl false, .bl false, .bl false]) := upd_same
      generalize upd F3 p4 (.lst ([.bl false, .bl false, .bl false, .bl false, .bl false, .bl false, .bl false, .bl true, .bl false] ++ [.bl false, .bl false, .bl false])) = G4 at s4 l4 ⊢
      refine ⟨_, rfl, isv rfl s4 (fun u e => e) J12 (isv rfl s4 (fun u e => e) J13 (⟨by show 2 ≤ sizeLine; decide, fun q4 hq4 => ?_⟩))⟩
      have y4 := newS hq4 (.lst [.bl false, .bl false])
      have z4 : upd G4 q4 (.lst [.bl false, .bl false]) q4 = some (.lst [.bl false, .bl false]) := upd_same
      have w4 := y4 _ _ l4
      have x4 := s4.trans y4
      generalize upd G4 q4 (.lst [.bl false, .bl false]) = F4 at y4 z4 w4 x4 ⊢
      refine ⟨p4, q4, [.bl false, .bl false, .bl false, .bl false, .bl false, .bl false, .bl false, .bl true, .bl false, .bl false, .bl false, .bl false], [.bl false, .bl false], rfl, rfl, w4, z4, by show 14 ≤ sizeLine; decide, fun p5 hp5 => ?_⟩
      have s5 := x4.trans (newS hp5 (.lst ([.bl false, .bl false, .bl false, .bl false, .bl false, .bl false, .bl false, .bl true, .bl false, .bl false, .bl false, .bl false] ++ [.bl false, .bl false])))
      have l5 : upd F4 p5 (.lst ([.bl false, .bl false, .bl false, .bl false, .bl false, .bl false, .bl false, .bl true, .bl false, .bl false, .bl false, .bl false] ++ [.bl false, .bl false])) p5 = some (.lst [.bl false, .bl false, .bl false, .bl false, .bl false, .bl false, .bl false, .bl true, .bl false, .bl false, .bl false, .bl false, .bl false, .bl false]) := upd_same
      generalize upd F4 p5 (.lst ([.bl false, .bl false, .bl false, .bl false, .bl false, .bl false, .bl false, .bl true, .bl false, .bl false, .bl false, .bl false] ++ [.bl false, .bl false])) = G5 at s5 l5 ⊢
      refine ⟨_, rfl, .inl ⟨rfl, _, SqL.of l5⟩, p5, [.bl false, .bl false, .bl false, .bl false, .bl false, .bl false, .bl false, .bl true, .bl false, .bl false, .bl false, .bl false, .bl false, .bl false], .bl true, rfl, rfl, SqL.of l5, rfl, rfl, rfl, _, rfl, iteF ?_⟩
      refine isv rfl s5 (fun u e => e) J.kv ⟨true, rfl, iteF ?_⟩
      refine ⟨_, rfl, .inl ⟨rfl, _, SqL.of l5⟩, p5, [.bl false, .bl false, .bl false, .bl false, .bl false, .bl false, .bl false, .bl true, .bl false, .bl false, .bl false, .bl false, .bl false, .bl false], .bl true, 7, .bl true, rfl, rfl, SqL.of l5, rfl, rfl, rfl, rfl, fun m z' hm e => ?_, ?_⟩
      · match m, hm, e with
        | 0, _, e => cases e; rfl
        | 1, _, e => cases e; rfl
        | 2, _, e => cases e; rfl
        | 3, _, e => cases e; rfl
        | 4, _, e => cases e; rfl
        | 5, _, e => cases e; rfl
        | 6, _, e => cases e; rfl
      refine ⟨by show 10 ≤ sizeLine; decide, fun pw hpw => ?_⟩
      have t1 := s5.trans (newS hpw (.lst [.str "operation", .str "cars", .str "road", .str "arrivals", .str "nosection", .str "decode", .str "notation", .str "nocar", .str "name", .str "number"]))
      have v1 : upd G5 pw (.lst [.str "operation", .str "cars", .str "road", .str "arrivals", .str "nosection", .str "decode", .str "notation", .str "nocar", .str "name", .str "number"]) pw = some (.lst [.str "operation", .str "cars", .str "road", .str "arrivals", .str "nosection", .str "decode", .str "notation", .str "nocar", .str "name", .str "number"]) := upd_same
      show tSeq _ _ _ _ (upd G5 pw (.lst [.str "operation", .str "cars", .str "road", .str "arrivals", .str "nosection", .str "decode", .str "notation", .str "nocar", .str "name", .str "number"]))
      generalize upd G5 pw (.lst [.str "operation", .str "cars", .str "road", .str "arrivals", .str "nosection", .str "decode", .str "notation", .str "nocar", .str "name", .str "number"]) = E1 at t1 v1 ⊢
      refine ⟨_, rfl, by show 4 ≤ sizeLine; decide, fun pv hpv => ?_⟩
      have y2 := newS hpv (.lst [.str "many", .str "kind", .str "contradiction", .str "count"])
      refine ⟨pw, pv, [.str "operation", .str "cars", .str "road", .str "arrivals", .str "nosection", .str "decode", .str "notation", .str "nocar", .str "name", .str "number"], [.str "many", .str "kind", .str "contradiction", .str "count"], rfl, rfl, y2 _ _ v1, upd_same, by show 14 ≤ sizeLine; decide, fun pu hpu => ?_⟩
      have t3 := t1.trans (y2.trans (newS hpu (.lst [.str "operation", .str "cars", .str "road", .str "arrivals", .str "nosection", .str "decode", .str "notation", .str "nocar", .str "name", .str "number", .str "many", .str "kind", .str "contradiction", .str "count"])))
      refine ⟨_, rfl, pu, _, ((7 : Nat) : Int), .str "nocar", rfl, rfl, SqL.of upd_same, atI_nat rfl, ?_⟩
      show tSeq _ _ _ _ (upd (upd E1 pv (.lst [.str "many", .str "kind", .str "contradiction", .str "count"])) pu (.lst [.str "operation", .str "cars", .str "road", .str "arrivals", .str "nosection", .str "decode", .str "notation", .str "nocar", .str "name", .str "number", .str "many", .str "kind", .str "contradiction", .str "count"]))
      generalize upd (upd E1 pv (.lst [.str "many", .str "kind", .str "contradiction", .str "count"])) pu (.lst [.str "operation", .str "cars", .str "road", .str "arrivals", .str "nosection", .str "decode", .str "notation", .str "nocar", .str "name", .str "number", .str "many", .str "kind", .str "contradiction", .str "count"]) = E3 at t3 ⊢
      refine ⟨_, rfl, _, _, rfl, rfl, false, rfl, iteF ?_⟩
      refine ⟨_, rfl, rfl, false, rfl, iteF ?_⟩
      refine ⟨_, rfl, rfl, false, rfl, iteF ?_⟩
      refine ⟨_, rfl, rfl, true, rfl, iteT ?_⟩
      rcases hf with hf | ⟨dd, fs, rfl, hdd, hfl⟩
      · omega
      refine ⟨_, rfl, _, rfl, rfl, rfl, dd, fs, v, rfl, t3 _ _ hdd, hfl, by show 2 ≤ sizeLine; decide, fun p hp => ?_⟩
      exact hQ _ p (t3.trans (newS hp _)) upd_same
    · skip
      have J0 : PySem.W.kitOne K (.ref C) (.ref c0) = some false := J.k0
      have J1 : PySem.W.kitOne K (.ref C) (.ref c1) = some false := J.k1
      have J2 : PySem.W.kitOne K (.ref C) (.ref c2) = some false := J.k2
      have J3 : PySem.W.kitOne K (.ref C) (.ref c3) = some false := J.k3
      have J4 : PySem.W.kitOne K (.ref C) (.ref c4) = some false := J.k4
      have J5 : PySem.W.kitOne K (.ref C) (.ref c5) = some false := J.k5
      have J6 : PySem.W.kitOne K (.ref C) (.ref c6) = some false := J.k6
      have J7 : PySem.W.kitOne K (.ref C) (.ref c7) = some false := J.k7
      have J8 : PySem.W.kitOne K (.ref C) (.ref c8) = some false := J.k8
      have J9 : PySem.W.kitOne K (.ref C) (.ref c9) = some true := J.k9
      have J10 : PySem.W.kitOne K (.ref C) (.ref c10) = some false := J.k10
      have J11 : PySem.W.kitOne K (.ref C) (.ref c11) = some false := J.k11
      have J12 : PySem.W.kitOne K (.ref C) (.ref c12) = some false := J.k12
      have J13 : PySem.W.kitOne K (.ref C) (.ref c13) = some false := J.k13
      refine isv rfl (Same.refl _) (fun u e => e) J0 (isv rfl (Same.refl _) (fun u e => e) J1 (isv rfl (Same.refl _) (fun u e => e) J2 (⟨by show 3 ≤ sizeLine; decide, fun p1 hp1 => ?_⟩)))
      have s1 := newS hp1 (.lst [.bl false, .bl false, .bl false])
      have l1 : upd H1 p1 (.lst [.bl false, .bl false, .bl false]) p1 = some (.lst [.bl false, .bl false, .bl false]) := upd_same
      generalize upd H1 p1 (.lst [.bl false, .bl false, .bl false]) = G1 at s1 l1 ⊢
      refine ⟨_, rfl, isv rfl s1 (fun u e => e) J3 (isv rfl s1 (fun u e => e) J4 (isv rfl s1 (fun u e => e) J5 (⟨by show 3 ≤ sizeLine; decide, fun q1 hq1 => ?_⟩)))⟩
      have y1 := newS hq1 (.lst [.bl false, .bl false, .bl false])
      have z1 : upd G1 q1 (.lst [.bl false, .bl false, .bl false]) q1 = some (.lst [.bl false, .bl false, .bl false]) := upd_same
      have w1 := y1 _ _ l1
      have x1 := s1.trans y1
      generalize upd G1 q1 (.lst [.bl false, .bl false, .bl false]) = F1 at y1 z1 w1 x1 ⊢
      refine ⟨p1, q1, [.bl false, .bl false, .bl false], [.bl false, .bl false, .bl false], rfl, rfl, w1, z1, by show 6 ≤ sizeLine; decide, fun p2 hp2 => ?_⟩
      have s2 := x1.trans (newS hp2 (.lst ([.bl false, .bl false, .bl false] ++ [.bl false, .bl false, .bl false])))
      have l2 : upd F1 p2 (.lst ([.bl false, .bl false, .bl false] ++ [.bl false, .bl false, .bl false])) p2 = some (.lst [.bl false, .bl false, .bl false, .bl false, .bl false, .bl false]) := upd_same
      generalize upd F1 p2 (.lst ([.bl false, .bl false, .bl false] ++ [.bl false, .bl false, .bl false])) = G2 at s2 l2 ⊢
      refine ⟨_, rfl, isv rfl s2 (fun u e => e) J6 (isv rfl s2 (fun u e => e) J7 (isv rfl s2 (fun u e => e) J8 (⟨by show 3 ≤ sizeLine; decide, fun q2 hq2 => ?_⟩)))⟩
      have y2 := newS hq2 (.lst [.bl false, .bl false, .bl false])
      have z2 : upd G2 q2 (.lst [.bl false, .bl false, .bl false]) q2 = some (.lst [.bl false, .bl false, .bl false]) := upd_same
      have w2 := y2 _ _ l2
      have x2 := s2.trans y2
      generalize upd G2 q2 (.lst [.bl false, .bl false, .bl false]) = F2 at y2 z2 w2 x2 ⊢
      refine ⟨p2, q2, [.bl false, .bl false, .bl false, .bl false, .bl false, .bl false], [.bl false, .bl false, .bl false], rfl, rfl, w2, z2, by show 9 ≤ sizeLine; decide, fun p3 hp3 => ?_⟩
      have s3 := x2.trans (newS hp3 (.lst ([.bl false, .bl false, .bl false, .bl false, .bl false, .bl false] ++ [.bl false, .bl false, .bl false])))
      have l3 : upd F2 p3 (.lst ([.bl false, .bl false, .bl false, .bl false, .bl false, .bl false] ++ [.bl false, .bl false, .bl false])) p3 = some (.lst [.bl false, .bl false, .bl false, .bl false, .bl false, .bl false, .bl false, .bl false, .bl false]) := upd_same
      generalize upd F2 p3 (.lst ([.bl false, .bl false, .bl false, .bl false, .bl false, .bl false] ++ [.bl false, .bl false, .bl false])) = G3 at s3 l3 ⊢
      refine ⟨_, rfl, isv rfl s3 (fun u e => e) J9 (isv rfl s3 (fun u e => e) J10 (isv rfl s3 (fun u e => e) J11 (⟨by show 3 ≤ sizeLine; decide, fun q3 hq3 => ?_⟩)))⟩
      have y3 := newS hq3 (.lst [.bl true, .bl false, .bl false])
      have z3 : upd G3 q3 (.lst [.bl true, .bl false, .bl false]) q3 = some (.lst [.bl true, .bl false, .bl false]) := upd_same
      have w3 := y3 _ _ l3
      have x3 := s3.trans y3
      generalize upd G3 q3 (.lst [.bl true, .bl false, .bl false]) = F3 at y3 z3 w3 x3 ⊢
      refine ⟨p3, q3, [.bl false, .bl false, .bl false, .bl false, .bl false, .bl false, .bl false, .bl false, .bl false], [.bl true, .bl false, .bl false], rfl, rfl, w3, z3, by show 12 ≤ sizeLine; decide, fun p4 hp4 => ?_⟩
      have s4 := x3.trans (newS hp4 (.lst ([.bl false, .bl false, .bl false, .bl false, .bl false, .bl false, .bl false, .bl false, .bl false] ++ [.bl true, .bl false, .bl false])))
      have l4 : upd F3 p4 (.lst ([.bl false, .bl false, .bl false, .bl false, .bl false, .bl false, .bl false, .bl false, .bl false] ++ [.bl true, .bl false, .bl false])) p4 = some (.lst [.bl false, .bl false, .bl false, .bl false, .bl false, .bl false, .bl false, .bl false, .bl false, .bl true, .bl false, .bl false]) := upd_same
      generalize upd F3 p4 (.lst ([.bl false, .bl false, .bl false, .bl false, .bl false, .bl false, .bl false, .bl false, .bl false] ++ [.bl true, .bl false, .bl false])) = G4 at s4 l4 ⊢
      refine ⟨_, rfl, isv rfl s4 (fun u e => e) J12 (isv rfl s4 (fun u e => e) J13 (⟨by show 2 ≤ sizeLine; decide, fun q4 hq4 => ?_⟩))⟩
      have y4 := newS hq4 (.lst [.bl false, .bl false])
      have z4 : upd G4 q4 (.lst [.bl false, .bl false]) q4 = some (.lst [.bl false, .bl false]) := upd_same
      have w4 := y4 _ _ l4
      have x4 := s4.trans y4
      generalize upd G4 q4 (.lst [.bl false, .bl false]) = F4 at y4 z4 w4 x4 ⊢
      refine ⟨p4, q4, [.bl false, .bl false, .bl false, .bl false, .bl false, .bl false, .bl false, .bl false, .bl false, .bl true, .bl false, .bl false], [.bl false, .bl false], rfl, rfl, w4, z4, by show 14 ≤ sizeLine; decide, fun p5 hp5 => ?_⟩
      have s5 := x4.trans (newS hp5 (.lst ([.bl false, .bl false, .bl false, .bl false, .bl false, .bl false, .bl false, .bl false, .bl false, .bl true, .bl false, .bl false] ++ [.bl false, .bl false])))
      have l5 : upd F4 p5 (.lst ([.bl false, .bl false, .bl false, .bl false, .bl false, .bl false, .bl false, .bl false, .bl false, .bl true, .bl false, .bl false] ++ [.bl false, .bl false])) p5 = some (.lst [.bl false, .bl false, .bl false, .bl false, .bl false, .bl false, .bl false, .bl false, .bl false, .bl true, .bl false, .bl false, .bl false, .bl false]) := upd_same
      generalize upd F4 p5 (.lst ([.bl false, .bl false, .bl false, .bl false, .bl false, .bl false, .bl false, .bl false, .bl false, .bl true, .bl false, .bl false] ++ [.bl false, .bl false])) = G5 at s5 l5 ⊢
      refine ⟨_, rfl, .inl ⟨rfl, _, SqL.of l5⟩, p5, [.bl false, .bl false, .bl false, .bl false, .bl false, .bl false, .bl false, .bl false, .bl false, .bl true, .bl false, .bl false, .bl false, .bl false], .bl true, rfl, rfl, SqL.of l5, rfl, rfl, rfl, _, rfl, iteF ?_⟩
      refine isv rfl s5 (fun u e => e) J.kv ⟨true, rfl, iteF ?_⟩
      refine ⟨_, rfl, .inl ⟨rfl, _, SqL.of l5⟩, p5, [.bl false, .bl false, .bl false, .bl false, .bl false, .bl false, .bl false, .bl false, .bl false, .bl true, .bl false, .bl false, .bl false, .bl false], .bl true, 9, .bl true, rfl, rfl, SqL.of l5, rfl, rfl, rfl, rfl, fun m z' hm e => ?_, ?_⟩
      · match m, hm, e with
        | 0, _, e => cases e; rfl
        | 1, _, e => cases e; rfl
        | 2, _, e => cases e; rfl
        | 3, _, e => cases e; rfl
        | 4, _, e => cases e; rfl
        | 5, _, e => cases e; rfl
        | 6, _, e => cases e; rfl
        | 7, _, e => cases e; rfl
        | 8, _, e => cases e; rfl
      refine ⟨by show 10 ≤ sizeLine; decide, fun pw hpw => ?_⟩
      have t1 := s5.trans (newS hpw (.lst [.str "operation", .str "cars", .str "road", .str "arrivals", .str "nosection", .str "decode", .str "notation", .str "nocar", .str "name", .str "number"]))
      have v1 : upd G5 pw (.lst [.str "operation", .str "cars", .str "road", .str "arrivals", .str "nosection", .str "decode", .str "notation", .str "nocar", .str "name", .str "number"]) pw = some (.lst [.str "operation", .str "cars", .str "road", .str "arrivals", .str "nosection", .str "decode", .str "notation", .str "nocar", .str "name", .str "number"]) := upd_same
      show tSeq _ _ _ _ (upd G5 pw (.lst [.str "operation", .str "cars", .str "road", .str "arrivals", .str "nosection", .str "decode", .str "notation", .str "nocar", .str "name", .str "number"]))
      generalize upd G5 pw (.lst [.str "operation", .str "cars", .str "road", .str "arrivals", .str "nosection", .str "decode", .str "notation", .str "nocar", .str "name", .str "number"]) = E1 at t1 v1 ⊢
      refine ⟨_, rfl, by show 4 ≤ sizeLine; decide, fun pv hpv => ?_⟩
      have y2 := newS hpv (.lst [.str "many", .str "kind", .str "contradiction", .str "count"])
      refine ⟨pw, pv, [.str "operation", .str "cars", .str "road", .str "arrivals", .str "nosection", .str "decode", .str "notation", .str "nocar", .str "name", .str "number"], [.str "many", .str "kind", .str "contradiction", .str "count"], rfl, rfl, y2 _ _ v1, upd_same, by show 14 ≤ sizeLine; decide, fun pu hpu => ?_⟩
      have t3 := t1.trans (y2.trans (newS hpu (.lst [.str "operation", .str "cars", .str "road", .str "arrivals", .str "nosection", .str "decode", .str "notation", .str "nocar", .str "name", .str "number", .str "many", .str "kind", .str "contradiction", .str "count"])))
      refine ⟨_, rfl, pu, _, ((9 : Nat) : Int), .str "number", rfl, rfl, SqL.of upd_same, atI_nat rfl, ?_⟩
      show tSeq _ _ _ _ (upd (upd E1 pv (.lst [.str "many", .str "kind", .str "contradiction", .str "count"])) pu (.lst [.str "operation", .str "cars", .str "road", .str "arrivals", .str "nosection", .str "decode", .str "notation", .str "nocar", .str "name", .str "number", .str "many", .str "kind", .str "contradiction", .str "count"]))
      generalize upd (upd E1 pv (.lst [.str "many", .str "kind", .str "contradiction", .str "count"])) pu (.lst [.str "operation", .str "cars", .str "road", .str "arrivals", .str "nosection", .str "decode", .str "notation", .str "nocar", .str "name", .str "number", .str "many", .str "kind", .str "contradiction", .str "count"]) = E3 at t3 ⊢
      refine ⟨_, rfl, _, _, rfl, rfl, false, rfl, iteF ?_⟩
      refine ⟨_, rfl, rfl, false, rfl, iteF ?_⟩
      refine ⟨_, rfl, rfl, false, rfl, iteF ?_⟩
      refine ⟨_, rfl, rfl, false, rfl, iteF ?_⟩
      refine ⟨_, rfl, by show 1 ≤ sizeLine; decide, fun p hp => ?_⟩
      exact hQ _ p (t3.trans (newS hp _)) upd_same
end Sl

set_option Elab.async false
set_option linter.all false
set_option maxRecDepth 100000
set_option maxHeartbeats 1000000
namespace Sl
open PySem PySem.Spec L2 OwnR LamX
/-- all that is no list stays, and what r is not -/
theorem KeepB.notlst {r : Addr} {H H' : Hp} {xs : List V} (k : KeepB r H H') (hr : H r = some (.lst xs)) : ∀ b o, H b = some o → (∀ ys, o ≠ .lst ys) → H' b = some o := fun b o e n => k b o e (ne_of e hr (n _))
theorem RoadAt.keepB {CR : Addr} {H H' : Hp} {p r : Addr} {secs : List Sec} {xs : List V} (h : RoadAt CR H p secs) (k : KeepB r H H') (hr : H r = some (.lst xs)) : RoadAt CR H' p secs := by
  obtain ⟨dx, t, u, h1, ⟨ts, a1, a2, a3⟩, h3⟩ := h
  have nl := k.notlst hr
  exact ⟨dx, t, u, nl _ _ h1 fun _ z => (nomatch z), ⟨ts, nl _ _ a1 fun _ z => (nomatch z), a2, fun i t s e1 e2 => nl _ _ (a3 i t s e1 e2) fun _ z => nomatch z⟩, h3⟩
theorem RunsAt.keepB {H H' : Hp} {p r : Addr} {secs : List Sec} {xs : List V} (h : RunsAt H p secs) (k : KeepB r H H') (n : p ≠ r) (hr : H r = some (.lst xs)) : RunsAt H' p secs := by
  obtain ⟨ts, a1, a2, a3⟩ := h
  have nl := k.notlst hr
  exact ⟨ts, k _ _ a1 n, a2, fun i t s e1 e2 => nl _ _ (a3 i t s e1 e2) fun _ z => nomatch z⟩
end Sl

set_option Elab.async false
set_option linter.all false
set_option maxRecDepth 100000
set_option maxHeartbeats 1000000
namespace Sl
open PySem PySem.Spec L2 OwnR LamX
/-! ### the law's own overtakings -/
theorem posL_get {n : Str} {l : List Str} (nd : l.Nodup) {i : Nat} (h : l[i]? = some n) : posL n l = i := by
  have hm := List.mem_of_getElem? h
  exact nd_ix nd (posL_at hm) h
theorem drop_mem {l : List Str} (nd : l.Nodup) {o : Str} (ho : o ∈ l) (i : Nat) : decide (o ∈ l.drop (i + 1)) = decide (i < posL o l) := by
  rw [decide_eq_decide]
  constructor
  · intro h
    obtain ⟨j, hj⟩ := List.mem_iff_getElem?.mp h
    rw [List.getElem?_drop] at hj
    rw [posL_get nd hj]
    omega
  · intro h
    have e := posL_at ho
    refine List.mem_iff_getElem?.mpr ⟨posL o l - (i + 1), ?_⟩
    rw [List.getElem?_drop, show i + 1 + (posL o l - (i + 1)) = posL o l by omega]
    exact e
theorem ovSec_same {l : List Str} (nd : l.Nodup) (k : Nat) : ∀ i, ovSec l l k i = []
  | 0 => rfl
  | i + 1 => by
    rw [ovSec_succ, ovSec_same nd k i, List.nil_append]
    unfold ovMid
    cases hn : l[i]? with
    | none => rfl
    | some n =>
      show ovIn l k i n (l.take (posL n l)) = []
      rw [posL_get nd hn]
      unfold ovIn
      rw [List.map_eq_nil_iff, List.filter_eq_nil_iff]
      intro o ho
      obtain ⟨j, hj⟩ := List.mem_iff_getElem?.mp ho
      have hji : j < i := by
        have := (List.getElem?_eq_some_iff.mp hj).1
        rw [List.length_take] at this
        omega
      rw [List.getElem?_take_of_lt hji] at hj
      rw [drop_mem nd (List.mem_of_getElem? hj), posL_get nd hj]
      simp
      omega
def OrdsAt (H : Hp) (a : Addr) (secs : List Sec) (cars : List Car) : Prop := ∃ os : List Addr, H a = some (.lst (os.map V.ref)) ∧ os.length = secs.length + 1 ∧ ∀ (k : Nat) (d : Addr), os[k]? = some d → H d = some (.lst ((plcC secs cars k).ord.map V.str))
end Sl

set_option Elab.async false
set_option linter.all false
set_option maxRecDepth 100000
set_option maxHeartbeats 1000000
namespace Sl
open PySem PySem.Spec L2 OwnR LamX
/-! ### the law's own driver: rows of a section, wide or narrow -/
def wrow (wd : Bool) (fr : Str → Int) (acc : List (RowT Str)) (n : Str) : RowT Str := if wd then (n, fr n, none) else fnext fr acc n
def wrows (wd : Bool) (fr : Str → Int) (ord : List Str) : List (RowT Str) := ord.foldl (fun acc n => acc ++ [wrow wd fr acc n]) []
theorem wrow_name (wd : Bool) (fr : Str → Int) (acc : List (RowT Str)) (n : Str) : (wrow wd fr acc n).1 = n := by
  unfold wrow
  split
  · rfl
  · exact fnext_name fr acc n
theorem wrows_snoc (wd : Bool) (fr : Str → Int) (ord : List Str) (n : Str) : wrows wd fr (ord ++ [n]) = wrows wd fr ord ++ [wrow wd fr (wrows wd fr ord) n] := by
  unfold wrows
  rw [List.foldl_append]
  rfl
theorem wrows_narrow (fr : Str → Int) (ord : List Str) : wrows false fr ord = foll fr ord := rfl
theorem wrows_wide (fr : Str → Int) (ord : List Str) : wrows true fr ord = ord.map fun n => (n, fr n, none) := by
  have h : ∀ (l : List Str) (acc : List (RowT Str)), l.foldl (fun acc n => acc ++ [wrow true fr acc n]) acc = acc ++ l.map fun n => (n, fr n, none) := by
    intro l
    induction l with
    | nil => intro acc; simp
    | cons n r ih =>
      intro acc
      rw [List.foldl_cons, ih, List.map_cons, List.append_assoc]
      rfl
  have := h ord []
  simpa [wrows] using this
theorem wrows_names (wd : Bool) (fr : Str → Int) (ord : List Str) : (wrows wd fr ord).map (·.1) = ord := by
  have h : ∀ (l : List Str) (acc : List (RowT Str)), (l.foldl (fun acc n => acc ++ [wrow wd fr acc n]) acc).map (·.1) = acc.map (·.1) ++ l := by
    intro l
    induction l with
    | nil => intro acc; simp
    | cons n r ih =>
      intro acc
      rw [List.foldl_cons, ih, List.map_append, List.append_assoc]
      simp [wrow_name]
  have := h ord []
  simpa [wrows] using this
theorem wrows_tick (pace : Str → Int) (p : Pl Str) (s : Sec) (nd : p.ord.Nodup) {n : Str} (hn : n ∈ p.ord) : ∃ x, look (wrows s.1 (freeP pace p s.2) p.ord) n = some x ∧ x.1 = (stepP pace p s).tk n := by
  obtain ⟨x, hx⟩ := look_some (acc := wrows s.1 (freeP pace p s.2) p.ord) (n := n) (by rw [wrows_names]; exact hn)
  refine ⟨x, hx, ?_⟩
  unfold stepP
  cases hw : s.1 with
  | true =>
    rw [hw, wrows_wide] at hx
    obtain ⟨i, hi⟩ := List.mem_iff_getElem?.mp hn
    have := look_get (acc := p.ord.map fun n => (n, freeP pace p s.2 n, none)) (by rw [List.map_map]; exact (List.map_id p.ord).symm ▸ nd) (i := i) (r := (n, freeP pace p s.2 n, none)) (by rw [List.getElem?_map, hi]; rfl)
    rw [this] at hx
    cases hx
    rfl
  | false =>
    rw [hw, wrows_narrow] at hx
    show x.1 = tickOf (foll (freeP pace p s.2) p.ord) n
    unfold tickOf
    rw [hx]
    rfl
theorem wrows_lead (pace : Str → Int) (p : Pl Str) (s : Sec) (n : Str) : leadOf (wrows s.1 (freeP pace p s.2) p.ord) n = leadP pace p s n := by
  unfold leadP
  cases hw : s.1 with
  | true =>
    rw [wrows_wide]
    show leadOf _ n = none
    unfold leadOf look
    cases q : (p.ord.map fun n => ((n, freeP pace p s.2 n, none) : RowT Str)).find? (fun r => decide (r.1 = n)) with
    | none => rfl
    | some r =>
      have hr := List.mem_of_find?_eq_some q
      obtain ⟨m, _, rfl⟩ := List.mem_map.mp hr
      rfl
  | false => rfl
def gOf (b : Str → List Int) (acc : List (RowT Str)) (n : Str) : List Int := b n ++ (match look acc n with
  | some x => [x.1]
  | none => [])
theorem gOf_nil (b : Str → List Int) : gOf b [] = b := by
  funext n
  unfold gOf
  rw [look_nil]
  exact List.append_nil _
theorem gOf_snoc (b : Str → List Int) (acc : List (RowT Str)) (r : RowT Str) (h : r.1 ∉ acc.map (·.1)) : (fun n => if n = r.1 then gOf b acc r.1 ++ [r.2.1] else gOf b acc n) = gOf b (acc ++ [r]) := by
  funext n
  show (if n = r.1 then gOf b acc r.1 ++ [r.2.1] else gOf b acc n) = _
  unfold gOf
  rw [look_snoc acc r n h]
  by_cases e : n = r.1
  · rw [if_pos e, if_pos e, look_none h, e]
    simp
  · rw [if_neg e, if_neg e]
theorem gOf_in {b : Str → List Int} {acc : List (RowT Str)} {n : Str} {x : Int × Option Str} (h : look acc n = some x) : gOf b acc n = b n ++ [x.1] := by
  unfold gOf
  rw [h]
def tkl (secs : List Sec) (cars : List Car) (i : Nat) (n : Str) : List Int := (List.range (i + 1)).map fun k => (plcC secs cars k).tk n
theorem tkl_succ (secs : List Sec) (cars : List Car) (i : Nat) (n : Str) : tkl secs cars (i + 1) n = tkl secs cars i n ++ [(plcC secs cars (i + 1)).tk n] := by
  unfold tkl
  rw [List.range_succ, List.map_append]
  rfl
theorem tkl_last (secs : List Sec) (cars : List Car) (i : Nat) (n : Str) : ∃ l, tkl secs cars i n = l ++ [(plcC secs cars i).tk n] := by
  unfold tkl
  exact ⟨(List.range i).map fun k => (plcC secs cars k).tk n, by rw [List.range_succ, List.map_append]; rfl⟩
/-- lists of numbers are no lists of names, none of references -/
theorem ints_str {l : List Int} {m : List Str} (h : l ≠ []) : (HO.lst (l.map V.int)) ≠ .lst (m.map V.str) := by
  intro z
  cases l with
  | nil => exact h rfl
  | cons a r =>
    cases m with
    | nil => cases z
    | cons b q => cases z
theorem ints_ref {l : List Int} {m : List Addr} (h : l ≠ []) : (HO.lst (l.map V.int)) ≠ .lst (m.map V.ref) := by
  intro z
  cases l with
  | nil => exact h rfl
  | cons a r =>
    cases m with
    | nil => cases z
    | cons b q => cases z
structure DrS (T : List (Addr × Str)) (H0 H : Hp) (secs : List Sec) (cars : List Car) (i : Nat) (g : Str → List Int) (TK PD OD LD : Addr) (ds os ls : List Addr) : Prop where
  ext : ExtN H0 H
  tabs : Tabs T H
  tk : ∃ kt, H TK = some (.dK kt) ∧ kt.map (·.1) = cars.map (fun c => (Sum.inr c.name : Key)) ∧ ∀ (q : Nat) (c : Car) (d : Addr), cars[q]? = some c → ds[q]? = some d → valV kt (Sum.inr c.name : Key) = some (.ref d)
  dl : ds.length = cars.length
  dv : ∀ (q : Nat) (c : Car) (d : Addr), cars[q]? = some c → ds[q]? = some d → H d = some (.lst ((g c.name).map V.int))
  gne : ∀ n, g n ≠ []
  dn : ds.Nodup
  dnew : ∀ d ∈ ds, New H0 d
  pd : ∃ kp, H PD = some (.dK kp) ∧ ∀ c ∈ cars, valV kp (Sum.inr c.name : Key) = some (.int c.pace)
  od : H OD = some (.lst (os.map V.ref))
  ol : os.length = i + 1
  ov : ∀ (k : Nat) (d : Addr), os[k]? = some d → H d = some (.lst ((plcC secs cars k).ord.map V.str))
  odn : New H0 OD
  ld : H LD = some (.lst (ls.map V.ref))
  ll : ls.length = i
  lv : ∀ (k : Nat) (d : Addr), ls[k]? = some d → ∃ kv, H d = some (.dK kv) ∧ ∀ n, valV kv (Sum.inr n : Key) = (ldrC secs cars k n).map V.str
  ldn : New H0 LD
  osl : ∀ d ∈ os, d ≠ LD
section
variable {T : List (Addr × Str)} {H0 H H' : Hp} {secs : List Sec} {cars : List Car} {i : Nat} {g : Str → List Int} {TK PD OD LD : Addr} {ds os ls : List Addr}
theorem DrS.step (D : DrS T H0 H secs cars i g TK PD OD LD ds os ls) (e : ExtN H H') (t : Tabs T H') : DrS T H0 H' secs cars i g TK PD OD LD ds os ls where
  ext := D.ext.trans e
  tabs := t
  tk := let ⟨kt, a, b⟩ := D.tk; ⟨kt, ExtN.dK e a, b⟩
  dl := D.dl
  dv := fun q c d h1 h2 => ExtN.lst e (D.dv q c d h1 h2)
  gne := D.gne
  dn := D.dn
  dnew := D.dnew
  pd := let ⟨kp, a, b⟩ := D.pd; ⟨kp, ExtN.dK e a, b⟩
  od := ExtN.lst e D.od
  ol := D.ol
  ov := fun k d h => ExtN.lst e (D.ov k d h)
  odn := D.odn
  ld := ExtN.lst e D.ld
  ll := D.ll
  lv := fun k d h => let ⟨kv, a, b⟩ := D.lv k d h; ⟨kv, ExtN.dK e a, b⟩
  ldn := D.ldn
  osl := D.osl
theorem DrS.congr (D : DrS T H0 H secs cars i g TK PD OD LD ds os ls) {g' : Str → List Int} (h : ∀ c ∈ cars, g c.name = g' c.name) (hn : ∀ n, g' n ≠ []) : DrS T H0 H secs cars i g' TK PD OD LD ds os ls :=
  { D with dv := fun q c d h1 h2 => by rw [← h c (List.mem_of_getElem? h1)]; exact D.dv q c d h1 h2, gne := hn }
/-- a tick is put behind a car's list -/
theorem DrS.tick (D : DrS T H0 H secs cars i g TK PD OD LD ds os ls) (nd : (names cars).Nodup) {q : Nat} {c : Car} {d : Addr} (hq : cars[q]? = some c) (hd : ds[q]? = some d) (x : Int) :
    DrS T H0 (upd H d (.lst ((g c.name).map V.int ++ [.int x]))) secs cars i (fun n => if n = c.name then g c.name ++ [x] else g n) TK PD OD LD ds os ls := by
  have hc := D.dv q c d hq hd
  have kl : ∀ b o, H b = some o → (∀ xs, o ≠ .lst xs) → upd H d (.lst ((g c.name).map V.int ++ [.int x])) b = some o := fun b o e n => by rw [upd_ne (ne_of e hc (n _))]; exact e
  have ks : ∀ b (m : List Str), H b = some (.lst (m.map V.str)) → upd H d (.lst ((g c.name).map V.int ++ [.int x])) b = some (.lst (m.map V.str)) := fun b m e => by rw [upd_ne (ne_of e hc (ints_str (D.gne _)).symm)]; exact e
  have kr : ∀ b (m : List Addr), H b = some (.lst (m.map V.ref)) → upd H d (.lst ((g c.name).map V.int ++ [.int x])) b = some (.lst (m.map V.ref)) := fun b m e => by rw [upd_ne (ne_of e hc (ints_ref (D.gne _)).symm)]; exact e
  have nw := D.dnew d (List.mem_of_getElem? hd)
  refine { D with ext := fun b o e n => ?_, tabs := ?_, tk := ?_, dv := ?_, gne := ?_, pd := ?_, od := kr _ _ D.od, ov := fun k b h => ks _ _ (D.ov k b h), ld := kr _ _ D.ld, lv := ?_ }
  · rw [upd_ne (nw b o e n)]
    exact D.ext b o e n
  · exact Tabs.keepL D.tabs kl
  · obtain ⟨kt, a, b⟩ := D.tk
    exact ⟨kt, kl _ _ a fun _ z => (nomatch z), b⟩
  · intro q' c' d' h1 h2
    by_cases e : d' = d
    · subst e
      have : q' = q := nd_ix D.dn h2 hd
      subst this
      rw [hq] at h1
      cases h1
      rw [upd_same]
      show _ = some (HO.lst ((if c.name = c.name then g c.name ++ [x] else g c.name).map V.int))
      rw [if_pos rfl, List.map_append]
      rfl
    · rw [upd_ne e]
      have hne : ¬ c'.name = c.name := fun z => by
        have a1 : (names cars)[q']? = some c.name := by unfold names; rw [List.getElem?_map, h1]; exact congrArg some z
        have a2 : (names cars)[q]? = some c.name := by unfold names; rw [List.getElem?_map, hq]; rfl
        have := nd_ix nd a1 a2
        subst this
        rw [hd] at h2
        exact e (Option.some.inj h2).symm
      show _ = some (HO.lst ((if c'.name = c.name then g c.name ++ [x] else g c'.name).map V.int))
      rw [if_neg hne]
      exact D.dv q' c' d' h1 h2
  · intro n
    show (if n = c.name then g c.name ++ [x] else g n) ≠ []
    split
    · simp
    · exact D.gne n
  · obtain ⟨kp, a, b⟩ := D.pd
    exact ⟨kp, kl _ _ a fun _ z => (nomatch z), b⟩
  · intro k b h
    obtain ⟨kv, a, e⟩ := D.lv k b h
    exact ⟨kv, kl _ _ a fun _ z => (nomatch z), e⟩
theorem DrS.tickKeep (D : DrS T H0 H secs cars i g TK PD OD LD ds os ls) {q : Nat} {c : Car} {d : Addr} (hq : cars[q]? = some c) (hd : ds[q]? = some d) (o' : HO) :
    (∀ b o, H b = some o → (∀ xs, o ≠ .lst xs) → upd H d o' b = some o) ∧ ∀ b (m : List Str), H b = some (.lst (m.map V.str)) → upd H d o' b = some (.lst (m.map V.str)) := by
  have hc := D.dv q c d hq hd
  exact ⟨fun b o e n => by rw [upd_ne (ne_of e hc (n _))]; exact e, fun b m e => by rw [upd_ne (ne_of e hc (ints_str (D.gne _)).symm)]; exact e⟩
/-- the section's order and leaders are put behind the lists -/
theorem DrS.put (D : DrS T H0 H secs cars i g TK PD OD LD ds os ls) {o' l' : Addr} {kv : List (Key × V)} (ho : H o' = some (.lst ((plcC secs cars (i + 1)).ord.map V.str))) (no : o' ≠ LD) (hl : H l' = some (.dK kv)) (hkv : ∀ n, valV kv (Sum.inr n : Key) = (ldrC secs cars i n).map V.str) :
    DrS T H0 (upd (upd H OD (.lst (os.map V.ref ++ [.ref o']))) LD (.lst (ls.map V.ref ++ [.ref l']))) secs cars (i + 1) g TK PD OD LD ds (os ++ [o']) (ls ++ [l']) := by
  have one : os ≠ [] := fun z => by have := D.ol; rw [z] at this; simp at this
  have refs_str : ∀ (m : List Str), HO.lst (m.map V.str) ≠ .lst (os.map V.ref) := fun m z => by
    cases os with
    | nil => exact one rfl
    | cons a r =>
      cases m with
      | nil => cases z
      | cons b q => cases z
  have nOL : OD ≠ LD := fun z => by
    have h1 := D.od
    have h2 := D.ld
    rw [z, h2] at h1
    have h3 : ls.map V.ref = os.map V.ref := by
      have := Option.some.inj h1
      injection this
    have := congrArg List.length h3
    rw [List.length_map, List.length_map, D.ol, D.ll] at this
    omega
  have kl : ∀ b o, H b = some o → (∀ xs, o ≠ .lst xs) → upd (upd H OD (.lst (os.map V.ref ++ [.ref o']))) LD (.lst (ls.map V.ref ++ [.ref l'])) b = some o := fun b o e n => by
    rw [upd_ne (ne_of e D.ld (n _)), upd_ne (ne_of e D.od (n _))]
    exact e
  have kd : ∀ (q : Nat) (c : Car) (d : Addr), cars[q]? = some c → ds[q]? = some d → upd (upd H OD (.lst (os.map V.ref ++ [.ref o']))) LD (.lst (ls.map V.ref ++ [.ref l'])) d = some (.lst ((g c.name).map V.int)) := fun q c d h1 h2 => by
    have e := D.dv q c d h1 h2
    rw [upd_ne (ne_of e D.ld (ints_ref (D.gne _))), upd_ne (ne_of e D.od (ints_ref (D.gne _)))]
    exact e
  refine { D with ext := fun b o e n => ?_, tabs := Tabs.keepL D.tabs kl, tk := ?_, dv := kd, pd := ?_, od := ?_, ol := by rw [List.length_append, D.ol]; rfl, ov := ?_, ld := ?_, ll := by rw [List.length_append, D.ll]; rfl, lv := ?_, osl := ?_ }
  · rw [upd_ne (D.ldn b o e n), upd_ne (D.odn b o e n)]
    exact D.ext b o e n
  · obtain ⟨kt, a, b⟩ := D.tk
    exact ⟨kt, kl _ _ a fun _ z => (nomatch z), b⟩
  · obtain ⟨kp, a, b⟩ := D.pd
    exact ⟨kp, kl _ _ a fun _ z => (nomatch z), b⟩
  · rw [upd_ne nOL, upd_same, List.map_append]
    rfl
  · intro k d h
    rcases snoc_get h with h | ⟨hk, rfl⟩
    · have e := D.ov k d h
      rw [upd_ne (D.osl d (List.mem_of_getElem? h)), upd_ne (ne_of e D.od (refs_str _))]
      exact e
    · rw [D.ol] at hk
      subst hk
      rw [upd_ne no, upd_ne (ne_of ho D.od (refs_str _))]
      exact ho
  · rw [upd_same, List.map_append]
    rfl
  · intro k d h
    rcases snoc_get h with h | ⟨hk, rfl⟩
    · obtain ⟨kv', a, e⟩ := D.lv k d h
      exact ⟨kv', kl _ _ a fun _ z => (nomatch z), e⟩
    · rw [D.ll] at hk
      subst hk
      exact ⟨kv, kl _ _ hl fun _ z => (nomatch z), hkv⟩
  · intro d hd
    rcases List.mem_append.mp hd with hd | hd
    · exact D.osl d hd
    · rw [List.mem_singleton.mp hd]
      exact no
end
end Sl

set_option Elab.async false
set_option linter.all false
set_option maxRecDepth 100000
set_option maxHeartbeats 1000000
namespace Sl
open PySem PySem.Spec L2 OwnR LamX
theorem DrS.nOL {T : List (Addr × Str)} {H0 H : Hp} {secs : List Sec} {cars : List Car} {i : Nat} {g : Str → List Int} {TK PD OD LD : Addr} {ds os ls : List Addr} (D : DrS T H0 H secs cars i g TK PD OD LD ds os ls) : OD ≠ LD := fun z => by
  have h1 := D.od
  have h2 := D.ld
  rw [z, h2] at h1
  have h3 : ls.map V.ref = os.map V.ref := by
    have := Option.some.inj h1
    injection this
  have := congrArg List.length h3
  rw [List.length_map, List.length_map, D.ol, D.ll] at this
  omega
theorem DrS.putStr {T : List (Addr × Str)} {H0 H : Hp} {secs : List Sec} {cars : List Car} {i : Nat} {g : Str → List Int} {TK PD OD LD : Addr} {ds os ls : List Addr} (D : DrS T H0 H secs cars i g TK PD OD LD ds os ls) {b : Addr} {m : List Str} (h : H b = some (.lst (m.map V.str))) (n : b ≠ LD) (x y : HO) :
    upd (upd H OD x) LD y b = some (.lst (m.map V.str)) := by
  have one : os ≠ [] := fun z => by have := D.ol; rw [z] at this; simp at this
  rw [upd_ne n, upd_ne (ne_of h D.od fun z => ?_)]
  · exact h
  · cases os with
    | nil => exact one rfl
    | cons a r =>
      cases m with
      | nil => cases z
      | cons b q => cases z
theorem DrS.dict {T : List (Addr × Str)} {H0 H : Hp} {secs : List Sec} {cars : List Car} {i : Nat} {g : Str → List Int} {TK PD OD LD G : Addr} {ds os ls : List Addr} {kG : List (Key × V)} (D : DrS T H0 H secs cars i g TK PD OD LD ds os ls) (hG : H G = some (.dK kG)) (n1 : TK ≠ G) (n2 : PD ≠ G) (n3 : ∀ d ∈ ls, d ≠ G) (nw : New H0 G) (x : List (Key × V)) :
    DrS T H0 (upd H G (.dK x)) secs cars i g TK PD OD LD ds os ls := by
  have kl : ∀ b xs, H b = some (.lst xs) → upd H G (.dK x) b = some (.lst xs) := fun b xs e => by rw [upd_ne (ne_of e hG (by intro z; cases z))]; exact e
  refine { D with ext := fun b o e n => ?_, tabs := fun p hp => ?_, tk := ?_, dv := fun q c d h1 h2 => kl _ _ (D.dv q c d h1 h2), pd := ?_, od := kl _ _ D.od, ov := fun k d h => kl _ _ (D.ov k d h), ld := kl _ _ D.ld, lv := fun k d h => ?_ }
  · rw [upd_ne (nw b o e n)]
    exact D.ext b o e n
  · obtain ⟨ps, z1, z2, z3⟩ := D.tabs p hp
    refine ⟨ps, by rw [upd_ne (ne_of z1 hG (by intro z; cases z))]; exact z1, z2, fun pos cv hcv => ?_⟩
    obtain ⟨cc, y1, y2⟩ := z3 pos cv hcv
    exact ⟨cc, y1, by rw [upd_ne (ne_of y2 hG (by intro z; unfold CodeO at z; cases z))]; exact y2⟩
  · obtain ⟨kt, a, b⟩ := D.tk
    exact ⟨kt, by rw [upd_ne n1]; exact a, b⟩
  · obtain ⟨kp, a, b⟩ := D.pd
    exact ⟨kp, by rw [upd_ne n2]; exact a, b⟩
  · obtain ⟨kv, a, b⟩ := D.lv k d h
    exact ⟨kv, by rw [upd_ne (n3 d (List.mem_of_getElem? h))]; exact a, b⟩
theorem same_new {H : Hp} {p : Addr} (h : H p = none) (o : HO) : Same H (upd H p o) := fun b x e => by rw [upd_ne (ne_of_none e h)]; exact e
theorem sort_pairs {cars : List Car} {ts : List Addr} (c2 : ts.length = cars.length) (nd : (names cars).Nodup) : ∃ sp : List (Car × Addr), (isort ((cars.map (·.start)).zip (ts.map V.ref))).map (·.2) = sp.map (fun q => V.ref q.2) ∧ (∀ q ∈ sp, q ∈ cars.zip ts) ∧ sp.map (fun q => q.1.name) = (pl0 cars).ord := by
  refine ⟨sortBy (fun q : Car × Addr => q.1.start) (cars.zip ts), ?_, fun q hq => ?_, ?_⟩
  · have e1 : (cars.map (·.start)).zip (ts.map V.ref) = ((cars.zip ts).map fun x => (x.1.start, x)).map fun q => (q.1, V.ref q.2.2) := by
      rw [List.zip_map, List.map_map]
      rfl
    rw [e1, isort_map (fun q : Car × Addr => V.ref q.2), List.map_map]
    unfold sortBy
    rw [List.map_map]
    rfl
  · exact (sortBy_perm _ _).mem_iff.mp hq
  · have e2 : names cars = (cars.zip ts).map fun q => q.1.name := by
      have : (cars.zip ts).map Prod.fst = cars := List.map_fst_zip (by omega)
      unfold names
      conv => lhs; rw [← this]
      rw [List.map_map]
      rfl
    show _ = sortBy (startOf cars) (names cars)
    rw [e2]
    exact (sortBy_map (fun q : Car × Addr => q.1.name) (fun q => q.1.start) (startOf cars) (cars.zip ts) fun q hq => startOf_car nd (List.of_mem_zip hq).1).symm
section
variable {P : Program} {w : World} {K : PySem.W.Frag} {mg : Str → Option Value} {base : Heap}
theorem keys_none {kt : List (Key × V)} {k : Key} (h : k ∉ kt.map (·.1)) : valV kt k = none := by
  induction kt with
  | nil => rfl
  | cons a l ih =>
    have hne : ¬ a.1 = k := fun z => h (by rw [← z]; exact List.mem_cons_self)
    obtain ⟨a1, a2⟩ := a
    rw [valV_neg hne]
    exact ih fun z => h (List.mem_cons_of_mem _ z)
theorem keys_snoc {kt : List (Key × V)} {cars : List Car} {j : Nat} {c : Car} {v : V} (h : kt.map (·.1) = (cars.take j).map (fun c => (Sum.inr c.name : Key))) (nd : (names cars).Nodup) (hc : cars[j]? = some c) : (putK kt (Sum.inr c.name : Key) v).map (·.1) = (cars.take (j + 1)).map (fun c => (Sum.inr c.name : Key)) := by
  have hn : valV kt (Sum.inr c.name : Key) = none := by
    refine keys_none ?_
    rw [h]
    intro z
    obtain ⟨d, hd, e⟩ := List.mem_map.mp z
    exact take_new nd hc (by rw [← Sum.inr.inj e]; exact List.mem_map_of_mem hd)
  rw [putK_new _ hn, List.map_append, h, tk1 hc, List.map_append]
  rfl
def TksAt (H : Hp) (a : Addr) (secs : List Sec) (cars : List Car) : Prop := ∃ kt, H a = some (.dK kt) ∧ kt.map (·.1) = cars.map (fun c => (Sum.inr c.name : Key)) ∧ ∀ c ∈ cars, ∃ d, valV kt (Sum.inr c.name : Key) = some (.ref d) ∧ H d = some (.lst ((tkl secs cars secs.length c.name).map V.int))
def LdsAt (H : Hp) (a : Addr) (secs : List Sec) (cars : List Car) : Prop := ∃ ls : List Addr, H a = some (.lst (ls.map V.ref)) ∧ ls.length = secs.length ∧ ∀ (k : Nat) (d : Addr), ls[k]? = some d → ∃ kv, H d = some (.dK kv) ∧ ∀ n, valV kv (Sum.inr n : Key) = (ldrC secs cars k n).map V.str
end
end Sl

set_option Elab.async false
set_option linter.all false
set_option maxRecDepth 100000
set_option maxHeartbeats 4000000
namespace Sl
open PySem PySem.Spec L2 OwnR LamX
section
variable {K : PySem.W.Frag}
theorem sameNew {H : Hp} {p : Addr} (h : H p = none) (o : HO) : Same H (upd H p o) := fun b x e => by rw [upd_ne (ne_of_none e h)]; exact e
/-! ### readings, step by step -/
theorem gname_to {i : Nat} {v : V} {σ : L2.St} {H : Hp} {Q : L2.St → Hp → Prop} (h : Q (σ.set i (some v)) H) : gName i v σ H Q := h
theorem seq_cut {t u : TS} {D : Ends} {σ : L2.St} {H : Hp} (C : L2.St → Hp → Prop) (h1 : ∀ nx : L2.St → Hp → Prop, (∀ σ' H', C σ' H' → nx σ' H') → t { D with nx := nx } σ H) (h2 : ∀ σ' H', C σ' H' → u D σ' H') : tSeq t u D σ H := h1 _ h2
theorem seq_asg {te : TE} {g : TG} {u : TS} {D : Ends} {σ : L2.St} {H : Hp} (h : te σ H fun x H1 => g x σ H1 (u D)) : tSeq (tAsg te g) u D σ H := h
theorem op_it {r : R2} {ta tb : TE} {σ : L2.St} {H : Hp} {Q : VK} (h : ta σ H fun x H1 => tb σ H1 fun y H2 => r x y H2 Q) : tOp r ta tb σ H Q := h
theorem test_op {r : R2} {ta tb : TE} {σ : L2.St} {H : Hp} {R : Bool → Hp → Prop} (h : ta σ H fun x H1 => tb σ H1 fun y H2 => r x y H2 fun z H3 => ∃ k, z = .bl k ∧ R k H3) : tTest (tOp r ta tb) σ H R := h
/-- a comprehension behind the value that it walks -/
def tLcB (J : It) (g : TG) (tt : TT) (te : TE) (vs : List Nat) (σ : L2.St) (H1 : Hp) (Q : VK) : Prop := ∀ D, H1 D = none → ∃ W : Nat → Nat → Hp → Prop, (∃ m, W 0 m (upd H1 D (.lst []))) ∧ ∀ i m H, W i m H →
  (J.stop i H ∧ Q (.ref D) H) ∨ (J.go i H ∧ ∃ Nx : Hp → Prop, (∀ H', Nx H' → ∃ m', m' < m ∧ W (i + 1) m' H') ∧ ∀ x H', J.yld i H x H' → g x (wipe σ vs) H' fun σ2 H2 => wipe σ2 vs = wipe σ vs ∧ tt σ2 H2 fun b H3 =>
    if b = true then te σ2 H3 fun y H4 => ∃ acc, H4 D = some (.lst acc) ∧ acc.length < sizeLine ∧ Nx (upd H4 D (.lst (acc ++ [y]))) else Nx H3)
theorem lc_list {tl : TE} {g : TG} {tt : TT} {te : TE} {vs : List Nat} {σ : L2.St} {H : Hp} {Q : VK} (h : tl σ H fun x H1 => ∃ a, x = .ref a ∧ (∃ xs, SqL K H1 a xs) ∧ tLcB (Itl K a) g tt te vs σ H1 Q) : tLc (iList K tl) g tt te vs σ H Q := h
/-- a comprehension that keeps those of a list that a test lets through -/
theorem lf_it {α : Type} (f : α → V) {i : Nat} {tt : TT} {σ : L2.St} {H : Hp} {a : Addr} {xs : List α} {Q : VK} (p : α → Bool) (small : xs.length ≤ 1000) (ha : H a = some (.lst (xs.map f)))
    (hw : ∀ x, wipe ((wipe σ [i]).set i (some x)) [i] = wipe σ [i]) (hv : ∀ x, ((wipe σ [i]).set i (some x))[i]? = some (some x))
    (ht : ∀ (x : α) (H1 : Hp) (R : Bool → Hp → Prop), x ∈ xs → Same H H1 → (∀ H2, Same H1 H2 → R (p x) H2) → tt ((wipe σ [i]).set i (some (f x))) H1 R)
    (k : ∀ D H', Same H H' → H D = none → H' D = some (.lst ((xs.filter p).map f)) → Q (.ref D) H') : tLcB (Itl K a) (gName i) tt (tVar i) [i] σ H Q := by
  intro D hD
  refine lc_it walk_list (fun j H1 => Same H H1 ∧ H1 D = some (.lst (((xs.take j).filter p).map f))) ⟨sameNew hD _, upd_same⟩ (fun j H1 _ ⟨k1, _⟩ => SqL.of (k1 _ _ ha)) ?_ ?_
  · rintro j y Hz H1 hj ⟨s1, hD1⟩ ⟨e, hy⟩
    subst e
    rw [List.length_map] at hj
    obtain ⟨x, hx⟩ : ∃ x, xs[j]? = some x := ⟨_, List.getElem?_eq_getElem hj⟩
    have hy : y = f x := by
      have : (xs.map f)[j]? = some (f x) := by rw [List.getElem?_map, hx]; rfl
      exact Option.some.inj (hy.symm.trans this)
    subst hy
    refine ⟨hw _, ht x _ _ (List.mem_of_getElem? hx) s1 fun H2 s2 => ?_⟩
    have s12 := s1.trans s2
    have hD2 := s2 _ _ hD1
    have en : (xs.take (j + 1)).filter p = (xs.take j).filter p ++ if p x = true then [x] else [] := by
      rw [tk1 hx, List.filter_append]
      by_cases g : p x = true <;> simp [g]
    by_cases g : p x = true
    · rw [g]
      refine iteT ⟨_, hv _, _, hD2, ?_, fun b o e2 => by rw [upd_ne (ne_of_none e2 hD)]; exact s12 _ _ e2, ?_⟩
      · rw [List.length_map]
        exact Nat.lt_of_le_of_lt (Nat.le_trans (List.length_filter_le _ _) (by rw [List.length_take]; omega)) (small1000 (show 1000 ≤ 1000 by decide))
      · rw [upd_same, en, if_pos g, List.map_append]
        rfl
    · rw [Bool.eq_false_iff.mpr g]
      refine iteF ⟨s12, ?_⟩
      rw [hD2, en, if_neg g, List.append_nil]
  rintro H1 ⟨s1, hD1⟩
  rw [List.length_map, List.take_length] at hD1
  exact k D H1 s1 hD hD1
/-- a suite in the middle: what it leaves is enough for the rest -/
theorem via {t : TS} {D : Ends} {σ : L2.St} {H : Hp} (C : L2.St → Hp → Prop) (h1 : ∀ nx : L2.St → Hp → Prop, (∀ σ' H', C σ' H' → nx σ' H') → t { D with nx := nx } σ H) (h2 : ∀ σ' H', C σ' H' → D.nx σ' H') : t D σ H := h1 D.nx h2
/-- a test in the middle: what it leaves is enough for either way -/
theorem viaT {c : TT} {t u : TS} {D : Ends} {σ : L2.St} {H : Hp} (G : Bool → Hp → Prop) (h1 : ∀ Q : Bool → Hp → Prop, (∀ b H', G b H' → Q b H') → c σ H Q) (h2 : ∀ b H', G b H' → if b = true then t D σ H' else u D σ H') : tIfS c t u D σ H := h1 _ h2
end
end Sl

set_option Elab.async false
set_option linter.all false
set_option maxRecDepth 100000
set_option maxHeartbeats 2000000
/-! Cars drawn, with rising starts (the laws k43 to k50). -/
namespace Sl
open PySem PySem.Spec L2 OwnR LamX
def tenL : List Str := ["a", "bo", "cat", "dan", "e", "fox", "gus", "h", "ivy", "jo"]
theorem ten_nd : tenL.Nodup := by decide +kernel
def nameB (z : Str) : Bool := decide (1 ≤ z.length) && decide (z.length ≤ 8) && z.cps.toList.all fun c => decide (97 ≤ c) && decide (c ≤ 122)
theorem name_of {z : Str} (h : nameB z = true) : NameOk z := by
  unfold nameB at h
  simp only [Bool.and_eq_true, decide_eq_true_eq, List.all_eq_true] at h
  exact ⟨h.1.1, h.1.2, h.2⟩
theorem ten_ok : ∀ z ∈ tenL, NameOk z := fun z hz => name_of (List.all_eq_true.mp (by decide +kernel : tenL.all nameB = true) z hz)
/-- cars that are drawn: names in their order, starts that rise by 60 at most -/
structure RiseC (cars : List Car) : Prop where
  nm : ∀ (j : Nat) (c : Car), cars[j]? = some c → tenL[j]? = some c.name
  st : ∀ (j : Nat) (c : Car), cars[j]? = some c → 0 ≤ c.start ∧ c.start ≤ 60 * ((j : Nat) + 1)
  pc : ∀ c ∈ cars, 1 ≤ c.pace ∧ c.pace ≤ 60
  up : ∀ (i j : Nat) (c d : Car), i ≤ j → cars[i]? = some c → cars[j]? = some d → c.start ≤ d.start
  few : cars.length ≤ 10
theorem RiseC.ok {cars : List Car} (R : RiseC cars) : CarsOk cars := by
  refine ⟨fun c hc => ?_, ?_, R.few⟩
  · obtain ⟨j, hj⟩ := List.mem_iff_getElem?.mp hc
    have hl := (List.getElem?_eq_some_iff.mp hj).1
    have few := R.few
    exact ⟨ten_ok _ (List.mem_of_getElem? (R.nm j c hj)), (R.st j c hj).1, by have := (R.st j c hj).2; omega, (R.pc c hc).1, (R.pc c hc).2⟩
  · have e : cars.map (·.name) = tenL.take cars.length := by
      apply List.ext_getElem?
      intro i
      rw [List.getElem?_map]
      by_cases hi : i < cars.length
      · have e := List.getElem?_eq_getElem hi
        rw [List.getElem?_take_of_lt hi, e]
        exact (R.nm i _ e).symm
      · rw [List.getElem?_eq_none (by omega), List.getElem?_eq_none (by rw [List.length_take]; omega)]
        rfl
    rw [e]
    exact ten_nd.sublist (List.take_sublist _ _)
theorem RiseC.nil : RiseC [] := ⟨fun j c e => by simp at e, fun j c e => by simp at e, fun c z => (nomatch z), fun i j c d _ e => by simp at e, Nat.zero_le _⟩
theorem RiseC.snoc {cars : List Car} {c : Car} {s : Int} (R : RiseC cars) (nm : tenL[cars.length]? = some c.name) (hs : ∀ d ∈ cars, d.start ≤ s) (s0 : 0 ≤ s) (s60 : s ≤ 60 * (cars.length : Nat)) (c1 : s ≤ c.start) (c2 : c.start ≤ s + 60) (p1 : 1 ≤ c.pace) (p2 : c.pace ≤ 60) (few : cars.length < 10) : RiseC (cars ++ [c]) := by
  have cs : ∀ {j : Nat} {d : Car}, (cars ++ [c])[j]? = some d → cars[j]? = some d ∨ (j = cars.length ∧ d = c) := fun e => by
    rcases snoc_get e with e | ⟨hj, rfl⟩
    · exact .inl e
    · exact .inr ⟨hj, rfl⟩
  refine ⟨fun j d e => ?_, fun j d e => ?_, fun d hd => ?_, fun i j d f hij e1 e2 => ?_, by rw [List.length_append]; show cars.length + 1 ≤ 10; omega⟩
  · rcases cs e with e | ⟨rfl, rfl⟩
    · exact R.nm j d e
    · exact nm
  · rcases cs e with e | ⟨rfl, rfl⟩
    · exact R.st j d e
    · omega
  · rcases List.mem_append.mp hd with z | z
    · exact R.pc d z
    · rw [List.mem_singleton.mp z]
      exact ⟨p1, p2⟩
  · rcases cs e1 with e3 | ⟨hi, hd⟩
    · rcases cs e2 with e4 | ⟨hj, hf⟩
      · exact R.up i j d f hij e3 e4
      · have := hs d (List.mem_of_getElem? e3)
        rw [hf]
        omega
    · rcases cs e2 with e4 | ⟨hj, hf⟩
      · have := (List.getElem?_eq_some_iff.mp e4).1
        omega
      · rw [hd, hf]
        exact Int.le_refl _
section
variable {P : Program} {w : World} {K : PySem.W.Frag} {mg : Str → Option Value} {base : Heap}
def spCarsC (K : PySem.W.Frag) : Sp := fun vs H Q _ => ∃ (r sc : Addr) (ns : List Int) (m : Nat), vs = [.ref r, .int (m : Nat)] ∧ m ≤ 10 ∧ RowAt K H r sc ns ∧
  ∀ H' a cars, KeepB r H H' → RowAt K H' r sc ns → CarsAt H' a cars → RiseC cars → cars.length ≤ m → Q (.ref a) H'
def nCarsC : List Str := ["_law_row", "_law_most", "_law_names", "_law_start", "_law_found", "_law_name"]
theorem scCarsC : FnScope nCarsC ["_law_row", "_law_most"] (defScope sCars) := ⟨rfl, rfl, rfl, by decide +kernel, rfl, by decide +kernel, by decide +kernel⟩
theorem four_at {q x y : Nat} (h : q < 4) (hx : x < 60) (hy : y < 60) : ∃ z : Nat, z ≤ 60 ∧ atI [V.int 0, V.int 1, V.int ((x : Nat) : Int), V.int ((y : Nat) : Int)] ((q : Nat) : Int) = some (V.int ((z : Nat) : Int)) := by
  have : q = 0 ∨ q = 1 ∨ q = 2 ∨ q = 3 := by omega
  rcases this with z | z | z | z
  · exact ⟨0, by decide, by rw [z]; rfl⟩
  · exact ⟨1, by decide, by rw [z]; rfl⟩
  · exact ⟨x, by omega, by rw [z]; rfl⟩
  · exact ⟨y, by omega, by rw [z]; rfl⟩
theorem ok_carsC {f fT : Addr} {fd dT : FuncData} (F : Fun K "_law_cars" "_law_cars" sCars f fd) (M : Mg mg) (BT : Fb K mg "_law_taken" sTaken ["_law_row", "_law_many"] fT dT)
    (GT : FnOk P w K mg base CX0 1 fT dT ["_law_row", "_law_many"] (spTaken K)) : FnOk P w K mg base CX0 2 f fd ["_law_row", "_law_most"] (spCarsC K) := by
  refine F.ok scCarsC (fun vs H Q E h => ?_) (fun cdv A outer s H vs Q E hr h => ?_)
  · obtain ⟨r, sc, ns, m, rfl, _⟩ := h
    rfl
  · obtain ⟨r, sc, ns, m, rfl, m10, R0, k⟩ := h
    have nd := scCarsC.nd
    refine ⟨_, (pss_cons (ps_par3 (i := 2) (j := 3) (l := 4) rfl nd rfl rfl rfl (by decide) (by decide) (by decide) rfl rfl rfl (pa_cons (pe_lst (pa_cons pe_str (pa_cons pe_str (pa_cons pe_str (pa_cons pe_str (pa_cons pe_str (pa_cons pe_str (pa_cons pe_str (pa_cons pe_str (pa_cons pe_str (pa_cons pe_str pa_nil))))))))))) (pa_cons pe_int (pa_cons (pe_lst pa_nil) pa_nil))) (by rfl)) (pss_cons (ps_for PassesOwn.never rfl (pi_list (pe_slice sl_list (pv 2) po_none (po_some (pe_call GT hr (by rfl) BT.at_ BT.fn.kp BT.bd .nil pass0 (pa_cons (pv 0) (pa_cons (pe_op op_add (pv 1) pe_int) pa_nil)))))) (pg_name (i := 5) nd rfl (.inl rfl)) (pss_cons (ps_set (i := 3) nd rfl (.inl rfl) (pe_op op_add (pv 3) (pe_ix ix_list (pe_lst (pa_cons pe_int (pa_cons pe_int (pa_cons (pe_call GT hr (by rfl) BT.at_ BT.fn.kp BT.bd .nil pass0 (pa_cons (pv 0) (pa_cons pe_int pa_nil))) (pa_cons (pe_call GT hr (by rfl) BT.at_ BT.fn.kp BT.bd .nil pass0 (pa_cons (pv 0) (pa_cons pe_int pa_nil))) pa_nil))))) (pe_call GT hr (by rfl) BT.at_ BT.fn.kp BT.bd .nil pass0 (pa_cons (pv 0) (pa_cons pe_int pa_nil))) (fun _ _ => rfl)))) (pss_one (ps_expr (pe_bm PySem.F.plainAttrs_list PySem.F.slot_list_append PySem.F.type_list_append mt_append (pv 4) (pa_cons (pe_tup (pa_cons (pv 5) (pa_cons (pv 3) (pa_cons (pe_op op_add pe_int (pe_call GT hr (by rfl) BT.at_ BT.fn.kp BT.bd .nil pass0 (pa_cons (pv 0) (pa_cons (pe_ix ix_list (pe_lst (pa_cons pe_int (pa_cons pe_int (pa_cons pe_int pa_nil)))) (pe_call GT hr (by rfl) BT.at_ BT.fn.kp BT.bd .nil pass0 (pa_cons (pv 0) (pa_cons pe_int pa_nil))) (fun _ _ => rfl)) pa_nil)))) pa_nil)))) pa_nil)))))) (pss_one (ps_ret (pe_callTy call_tuple_of (by rfl) M.tuple boot_tTuple (pa_cons (pv 4) pa_nil)))))), ?_⟩
    refine ⟨by show 10 ≤ sizeLine; decide, fun W hW => ⟨by show 0 ≤ sizeLine; decide, fun L hL => ?_⟩⟩
    have SW := newS hW (.lst (tenL.map V.str))
    have SL := newS hL (.lst [])
    have nLr := (R0.same SW).old hL
    have nWr := R0.old hW
    have hW1 := SL _ _ (upd_same (H := H) (a := W) (o := .lst (tenL.map V.str)))
    have hLH : H L = none := by
      cases e : H L with
      | none => rfl
      | some o => exact absurd ((SW _ _ e).symm.trans hL) (fun z => nomatch z)
    have R1 := (R0.same SW).same SL
    refine ⟨_, _, _, rfl, ?_⟩
    refine ⟨_, rfl, _, rfl, _, rfl, _, _, rfl, rfl, r, sc, ns, m + 1, rfl, by omega, by omega, R1, fun H2 q k2 R2 hq => ?_⟩
    have hL2 : H2 L = some (.lst []) := k2 _ _ upd_same nLr
    have hW2 := k2 _ _ hW1 nWr
    refine ⟨_, rfl, W, _, rfl, SqL.of hW2, fun D hD => ?_⟩
    have hcut : cutV (tenL.map V.str) none (some ((q : Nat) : Int)) = (tenL.take q).map V.str := by
      rw [cut_to (by show q ≤ 10; omega), List.map_take]
    have hDm : upd H2 D (.lst (cutV (tenL.map V.str) none (some ((q : Nat) : Int)))) D = some (.lst ((tenL.take q).map V.str)) := by rw [upd_same, hcut]
    have SD := newS hD (.lst (cutV (tenL.map V.str) none (some ((q : Nat) : Int))))
    have nDr := R2.old hD
    have R3 := R2.same SD
    have k3 : KeepB r H (upd H2 D (.lst (cutV (tenL.map V.str) none (some ((q : Nat) : Int))))) := (KeepB.of (SW.trans SL)).trans (k2.trans (KeepB.of SD))
    have nDL : D ≠ L := fun z => by
      rw [z, hL2] at hD
      cases hD
    have hL3 : upd H2 D (.lst (cutV (tenL.map V.str) none (some ((q : Nat) : Int)))) L = some (.lst []) := SD _ _ hL2
    generalize upd H2 D (.lst (cutV (tenL.map V.str) none (some ((q : Nat) : Int)))) = H3 at hDm R3 k3 hL3 ⊢
    have hlq : ((tenL.take q).map V.str).length = q := by
      rw [List.length_map, List.length_take]
      show min q 10 = q
      omega
    refine ⟨D, rfl, ⟨_, SqL.of hDm⟩, ?_⟩
    refine for_it walk_list (fun i σ H4 => ∃ (cars : List Car) (s : Nat) (v5 : Option V), σ = [some (.ref r), some (.int ((m : Nat) : Int)), some (.ref W), some (.int ((s : Nat) : Int)), some (.ref L), v5] ∧ KeepB r H H4 ∧ RowAt K H4 r sc ns ∧ TupsAt H4 L (cars.map Car.vs) ∧ H4 D = some (.lst ((tenL.take q).map V.str)) ∧ cars.length = i ∧ RiseC cars ∧ (∀ d ∈ cars, d.start ≤ ((s : Nat) : Int)) ∧ s ≤ 60 * i)
      ⟨[], 0, none, rfl, k3, R3, tups_nil hL3, hDm, rfl, RiseC.nil, fun d z => (nomatch z), Nat.zero_le _⟩ (fun _ _ _ _ ⟨_, _, _, _, _, _, _, e, _⟩ => SqL.of e) ?_ ?_
    · rintro i x σ Hz H4 hi ⟨cars, s, v5, rfl, k4, R4, T4, hD4, hlen, RC, hmx, s60⟩ ⟨e, hx⟩
      subst e
      rw [hlq] at hi
      obtain ⟨nmx, hnm, rfl⟩ : ∃ n, tenL[i]? = some n ∧ x = V.str n := by
        rw [List.getElem?_map] at hx
        obtain ⟨t, z1, z2⟩ := Option.map_eq_some_iff.mp hx
        rw [List.getElem?_take_of_lt hi] at z1
        exact ⟨t, z1, z2.symm⟩
      obtain ⟨xr4, hxr4⟩ := R4.lst
      refine gname_to ?_
      refine ⟨_, rfl, _, rfl, r, sc, ns, 12, rfl, by omega, by omega, R4, fun H5 q1 k5 R5 hq1 => ?_⟩
      have T5 := T4.keep k5 nLr hxr4
      have hD5 := k5 _ _ hD4 nDr
      obtain ⟨xr5, hxr5⟩ := R5.lst
      refine ⟨_, rfl, r, sc, ns, 60, rfl, by omega, by omega, R5, fun H6 q2 k6 R6 hq2 => ?_⟩
      have T6 := T5.keep k6 nLr hxr5
      have hD6 := k6 _ _ hD5 nDr
      obtain ⟨xr6, hxr6⟩ := R6.lst
      refine ⟨by show 4 ≤ sizeLine; decide, fun l hl => ?_⟩
      have nlr := R6.old hl
      have s7 := newS hl (.lst [V.int 0, V.int 1, V.int ((q1 : Nat) : Int), V.int ((q2 : Nat) : Int)])
      refine ⟨_, rfl, r, sc, ns, 4, rfl, by omega, by omega, R6.same s7, fun H8 q3 k8 R8 hq3 => ?_⟩
      have hl8 : H8 l = some (.lst [V.int 0, V.int 1, V.int ((q1 : Nat) : Int), V.int ((q2 : Nat) : Int)]) := k8 _ _ upd_same nlr
      have T8 := (T6.same s7).keep k8 nLr (s7 _ _ hxr6)
      have hD8 := k8 _ _ (s7 _ _ hD6) nDr
      obtain ⟨d, hd60, hdat⟩ := four_at hq3 (x := q1) (y := q2) (by omega) (by omega)
      refine ⟨l, _, _, _, rfl, rfl, SqL.of hl8, hdat, _, _, rfl, rfl, ?_⟩
      have k48 := k5.trans (k6.trans ((KeepB.of s7).trans k8))
      obtain ⟨xr8, hxr8⟩ := R8.lst
      obtain ⟨ts, t1, t2, t3⟩ := id T8
      refine ⟨_, rfl, .inl ⟨rfl, _, SqL.of t1⟩, _, rfl, _, rfl, _, rfl, by show 3 ≤ sizeLine; decide, fun l2 hl2 => ?_⟩
      have nl2r := R8.old hl2
      have s9 := newS hl2 (.lst [V.int ((4 : Nat) : Int), V.int ((12 : Nat) : Int), V.int ((60 : Nat) : Int)])
      refine ⟨_, rfl, r, sc, ns, 3, rfl, by omega, by omega, R8.same s9, fun H10 q4 k10 R10 hq4 => ?_⟩
      have hl10 : H10 l2 = some (.lst [V.int ((4 : Nat) : Int), V.int ((12 : Nat) : Int), V.int ((60 : Nat) : Int)]) := k10 _ _ upd_same nl2r
      have T10 := (T8.same s9).keep k10 nLr (s9 _ _ hxr8)
      have hD10 := k10 _ _ (s9 _ _ hD8) nDr
      obtain ⟨m2, hm2, hat2⟩ := many3 (a := 4) (b := 12) (c := 60) hq4
      obtain ⟨xr10, hxr10⟩ := R10.lst
      refine ⟨l2, _, _, _, rfl, rfl, SqL.of hl10, hat2, r, sc, ns, m2, rfl, by omega, by omega, R10, fun H11 q5 k11 R11 hq5 => ?_⟩
      obtain ⟨ts11, z1, z2, z3⟩ := T10.keep k11 nLr hxr10
      have hD11 := k11 _ _ hD10 nDr
      have k411 := k4.trans (k48.trans ((KeepB.of s9).trans (k10.trans k11)))
      refine ⟨_, _, rfl, rfl, by show 3 ≤ sizeLine; decide, fun t ht => ?_⟩
      have nLt : L ≠ t := ne_of_none z1 ht
      refine ⟨L, _, .ref t, rfl, rfl, by rw [upd_ne nLt]; exact z1, by rw [List.length_map, z2, List.length_map, hlen]; exact small1000 (by omega), ?_⟩
      have hup := newS ht (.tup [V.str nmx, V.int (((s : Nat) : Int) + ((d : Nat) : Int)), V.int (1 + ((q5 : Nat) : Int))])
      have kup := k411.trans (KeepB.of hup)
      refine ⟨cars ++ [⟨nmx, ((s : Nat) : Int) + ((d : Nat) : Int), 1 + ((q5 : Nat) : Int)⟩], s + d, some (.str nmx), ?_, kup.upd_new _ hLH, R0.putOff (R11.same hup) kup _ hLH nLr, ?_, by rw [upd_ne nDL]; exact hup _ _ hD11, by rw [List.length_append, hlen]; rfl, ?_, fun c hc => ?_, by omega⟩
      · show [some (V.ref r), _, _, some (V.int (((s : Nat) : Int) + ((d : Nat) : Int))), _, _] = _
        rw [show ((s : Nat) : Int) + ((d : Nat) : Int) = (((s + d : Nat)) : Int) by omega]
      · have := tups_push z1 z2 z3 ht [V.str nmx, V.int (((s : Nat) : Int) + ((d : Nat) : Int)), V.int (1 + ((q5 : Nat) : Int))]
        rw [List.map_append]
        exact this
      · exact RC.snoc (s := ((s : Nat) : Int)) (by rw [hlen]; exact hnm) hmx (by omega) (by rw [hlen]; omega) (by show _ ≤ ((s : Nat) : Int) + ((d : Nat) : Int); omega) (by show ((s : Nat) : Int) + ((d : Nat) : Int) ≤ _; omega) (by show 1 ≤ 1 + ((q5 : Nat) : Int); omega) (by show 1 + ((q5 : Nat) : Int) ≤ 60; omega) (by omega)
      · rcases List.mem_append.mp hc with z | z
        · have := hmx c z
          omega
        · rw [List.mem_singleton.mp z]
          show ((s : Nat) : Int) + ((d : Nat) : Int) ≤ _
          omega
    · rintro σ H4 ⟨cars, s, v5, rfl, k4, R4, ⟨ts, t1, t2, t3⟩, hD4, hlen, RC, hmx, s60⟩
      refine ⟨_, rfl, L, _, rfl, .inl ⟨SqL.of t1, fun t ht => ?_⟩⟩
      have s5 := newS ht (.tup (ts.map V.ref))
      exact k _ t cars (k4.trans (KeepB.of s5)) (R4.same s5) ⟨ts, upd_same, by rw [t2, List.length_map], fun i a c e1 e2 => s5 _ _ (t3 i a c.vs e1 (by rw [List.getElem?_map, e2]; rfl))⟩ RC (by omega)
end
end Sl

set_option Elab.async false
set_option linter.all false
set_option maxRecDepth 100000
set_option maxHeartbeats 1000000
/-! How late a car can be (rows of k61/J1 and k64/N1). -/
namespace Sl
open PySem PySem.Spec L2 OwnR LamX
section
variable {N : Type} [DecidableEq N]
theorem foll_append (f : N → Int) (a : List N) : ∀ b : List N, ∃ r, foll f (a ++ b) = foll f a ++ r := by
  intro b
  induction b generalizing a with
  | nil => exact ⟨[], by simp⟩
  | cons n r ih =>
    obtain ⟨r', h⟩ := ih (a ++ [n])
    rw [List.append_assoc, List.singleton_append] at h
    exact ⟨fnext f (foll f a) n :: r', by rw [h, foll_snoc, List.append_assoc, List.singleton_append]⟩
theorem foll_at (f : N → Int) {l : List N} {i : Nat} {x : N} (h : l[i]? = some x) : (foll f l)[i]? = some (fnext f (foll f (l.take i)) x) := by
  have hi : i < l.length := (List.getElem?_eq_some_iff.mp h).1
  have e : l = (l.take i ++ [x]) ++ l.drop (i + 1) := by
    rw [← tk1 h, List.take_append_drop]
  obtain ⟨r, hr⟩ := foll_append f (l.take i ++ [x]) (l.drop (i + 1))
  rw [← e, foll_snoc] at hr
  have hl : (foll f (l.take i)).length = i := by rw [foll_length, List.length_take]; omega
  rw [hr, List.getElem?_append_left (by rw [List.length_append, hl]; simp), List.getElem?_append_right (by omega), hl, Nat.sub_self]
  rfl
theorem foll_max (f : N → Int) (l : List N) : ∀ (i : Nat) (r : RowT N), (foll f l)[i]? = some r → (∀ (j : Nat) (y : N), j ≤ i → l[j]? = some y → f y ≤ r.2.1) ∧ ∃ (j : Nat) (y : N), j ≤ i ∧ l[j]? = some y ∧ f y = r.2.1 := by
  intro i
  induction i with
  | zero =>
    intro r hr
    have hlen := (List.getElem?_eq_some_iff.mp hr).1
    rw [foll_length] at hlen
    obtain ⟨x, hx⟩ : ∃ x, l[0]? = some x := ⟨_, List.getElem?_eq_getElem hlen⟩
    rw [foll_at f hx] at hr
    have e : r = (x, f x, none) := (Option.some.inj hr).symm
    subst e
    refine ⟨fun j y hj hy => ?_, 0, x, Nat.le_refl _, hx, rfl⟩
    have : j = 0 := by omega
    subst this
    rw [hx] at hy
    rw [← Option.some.inj hy]
    exact Int.le_refl _
  | succ i ih =>
    intro r hr
    have hlen := (List.getElem?_eq_some_iff.mp hr).1
    rw [foll_length] at hlen
    obtain ⟨x, hx⟩ : ∃ x, l[i + 1]? = some x := ⟨_, List.getElem?_eq_getElem hlen⟩
    obtain ⟨x0, hx0⟩ : ∃ x, l[i]? = some x := ⟨_, List.getElem?_eq_getElem (by omega)⟩
    have h0 := foll_at f hx0
    obtain ⟨h1, j0, y0, hj0, hy0, e0⟩ := ih _ h0
    rw [foll_at f hx] at hr
    have hlast : (foll f (l.take (i + 1))).getLast? = some (fnext f (foll f (l.take i)) x0) := by
      rw [tk1 hx0, foll_snoc, List.getLast?_append]
      simp
    generalize fnext f (foll f (l.take i)) x0 = r0 at *
    obtain ⟨a, t, q⟩ := r0
    have er : r = if f x < t then (x, t, some (q.getD a)) else (x, f x, none) := by
      rw [← Option.some.inj hr]
      unfold fnext
      rw [hlast]
    have et : r.2.1 = max t (f x) := by
      rw [er]
      split
      · show t = _
        omega
      · show f x = _
        omega
    rw [et]
    refine ⟨fun j y hj hy => ?_, ?_⟩
    · rcases Nat.lt_or_ge j (i + 1) with h | h
      · have := h1 j y (by omega) hy
        have e : (a, t, q).2.1 = t := rfl
        rw [e] at this
        omega
      · have : j = i + 1 := by omega
        subst this
        rw [hx] at hy
        rw [← Option.some.inj hy]
        omega
    · rcases Int.lt_or_le (f x) t with h | h
      · refine ⟨j0, y0, by omega, hy0, ?_⟩
        rw [e0]
        show t = _
        omega
      · exact ⟨i + 1, x, Nat.le_refl _, hx, by omega⟩
theorem tick_at (f : N → Int) {l : List N} (nd : l.Nodup) {i : Nat} {x : N} (h : l[i]? = some x) : ∃ r, (foll f l)[i]? = some r ∧ tickOf (foll f l) x = r.2.1 := by
  refine ⟨_, foll_at f h, ?_⟩
  have e := look_get (by rw [foll_names]; exact nd) (foll_at f h)
  rw [fnext_name] at e
  unfold tickOf
  rw [e]
  rfl
theorem tick_max (f : N → Int) {l : List N} (nd : l.Nodup) {i : Nat} {x : N} (h : l[i]? = some x) : (∀ (j : Nat) (y : N), j ≤ i → l[j]? = some y → f y ≤ tickOf (foll f l) x) ∧ ∃ (j : Nat) (y : N), j ≤ i ∧ l[j]? = some y ∧ f y = tickOf (foll f l) x := by
  obtain ⟨r, h1, h2⟩ := tick_at f nd h
  rw [h2]
  exact foll_max f l i r h1
/-- ticks grow, and not too far -/
theorem tick_up {pace : N → Int} {P : Pl N} (nd : P.ord.Nodup) {n : N} (hn : n ∈ P.ord) (hp : 0 ≤ pace n) (s : Bool × Nat) : P.tk n ≤ (stepP pace P s).tk n := by
  have hf : P.tk n ≤ freeP pace P s.2 n := by
    unfold freeP
    have := Int.mul_nonneg hp (Int.natCast_nonneg s.2)
    omega
  unfold stepP
  split
  · exact hf
  · obtain ⟨i, hi⟩ := List.mem_iff_getElem?.mp hn
    have := (tick_max (freeP pace P s.2) nd hi).1 i n (Nat.le_refl _) hi
    show P.tk n ≤ tickOf (foll (freeP pace P s.2) P.ord) n
    omega
theorem tick_cap {pace : N → Int} {P : Pl N} (nd : P.ord.Nodup) {B : Int} (h : ∀ x ∈ P.ord, P.tk x ≤ B ∧ pace x ≤ 60) (s : Bool × Nat) : ∀ x ∈ (stepP pace P s).ord, (stepP pace P s).tk x ≤ B + 60 * (s.2 : Int) ∧ pace x ≤ 60 := by
  intro x hx
  have hx := (stepP_perm pace P s).mem_iff.mp hx
  have hf : ∀ y ∈ P.ord, freeP pace P s.2 y ≤ B + 60 * (s.2 : Int) := fun y hy => by
    obtain ⟨h1, h2⟩ := h y hy
    have := Int.mul_le_mul_of_nonneg_right h2 (Int.natCast_nonneg s.2)
    unfold freeP
    omega
  refine ⟨?_, (h x hx).2⟩
  unfold stepP
  split
  · exact hf x hx
  · obtain ⟨i, hi⟩ := List.mem_iff_getElem?.mp hx
    obtain ⟨_, j, y, _, hy, ey⟩ := tick_max (freeP pace P s.2) nd hi
    have := hf y (List.mem_of_getElem? hy)
    show tickOf (foll (freeP pace P s.2) P.ord) x ≤ _
    omega
theorem plc_up {pace : N → Int} {P : Pl N} (nd : P.ord.Nodup) {n : N} (hn : n ∈ P.ord) (hp : 0 ≤ pace n) (secs : List (Bool × Nat)) : ∀ k, k ≤ secs.length → P.tk n ≤ (plc pace P secs k).tk n
  | 0, _ => Int.le_refl _
  | k + 1, h => by
    obtain ⟨s, hs⟩ : ∃ s, secs[k]? = some s := ⟨_, List.getElem?_eq_getElem (by omega)⟩
    rw [plc_succ pace P secs hs]
    have pm := plc_perm pace P secs k
    exact Int.le_trans (plc_up nd hn hp secs k (by omega)) (tick_up (pm.nodup_iff.mpr nd) (pm.mem_iff.mpr hn) hp s)
theorem plc_cap {pace : N → Int} {P : Pl N} (nd : P.ord.Nodup) {B : Int} (h : ∀ x ∈ P.ord, P.tk x ≤ B ∧ pace x ≤ 60) {secs : List (Bool × Nat)} (h9 : ∀ s ∈ secs, s.2 ≤ 99) : ∀ k, k ≤ secs.length → ∀ x ∈ (plc pace P secs k).ord, (plc pace P secs k).tk x ≤ B + 5940 * (k : Int) ∧ pace x ≤ 60
  | 0, _ => fun x hx => by
    have := h x hx
    exact ⟨by rw [plc_zero]; omega, this.2⟩
  | k + 1, hk => fun x hx => by
    obtain ⟨s, hs⟩ : ∃ s, secs[k]? = some s := ⟨_, List.getElem?_eq_getElem (by omega)⟩
    rw [plc_succ pace P secs hs] at hx ⊢
    have pm := plc_perm pace P secs k
    have := tick_cap (pm.nodup_iff.mpr nd) (plc_cap nd h h9 k (by omega)) s x hx
    have := h9 s (List.mem_of_getElem? hs)
    omega
end
theorem tick_most {secs : List Sec} {cars : List Car} (CO : CarsOk cars) (S : SecsOk secs) {n : Str} (hn : n ∈ names cars) {k : Nat} (hk : k ≤ secs.length) : (plcC secs cars k).tk n ≤ 1100000 := by
  have h := plc_cap (pace := paceOf cars) (P := pl0 cars) (B := 1000000) (secs := secs) ((pl0_perm cars).nodup_iff.mpr CO.nd) (fun x hx => by
    obtain ⟨c, hc, rfl⟩ := List.mem_map.mp ((pl0_perm cars).mem_iff.mp hx)
    refine ⟨?_, by rw [paceOf_car CO.nd hc]; exact (CO.all c hc).p1⟩
    show startOf cars c.name ≤ _
    rw [startOf_car CO.nd hc]
    exact (CO.all c hc).s1) (fun s hs => (S.len s hs).2) k hk n ((plcC_perm secs cars k).mem_iff.mpr hn)
  have := S.few
  show (plc (paceOf cars) (pl0 cars) secs k).tk n ≤ _
  omega
theorem tick_zero {secs : List Sec} {cars : List Car} (CO : CarsOk cars) {n : Str} (hn : n ∈ names cars) {k : Nat} (hk : k ≤ secs.length) : 0 ≤ (plcC secs cars k).tk n := by
  obtain ⟨c, hc, rfl⟩ := List.mem_map.mp hn
  have hp : 0 ≤ paceOf cars c.name := by
    rw [paceOf_car CO.nd hc]
    have := (CO.all c hc).p0
    omega
  have := plc_up (pace := paceOf cars) (P := pl0 cars) ((pl0_perm cars).nodup_iff.mpr CO.nd) ((pl0_perm cars).mem_iff.mpr hn) hp secs k hk
  have e : (pl0 cars).tk c.name = c.start := startOf_car CO.nd hc
  have := (CO.all c hc).s0
  show 0 ≤ (plc (paceOf cars) (pl0 cars) secs k).tk c.name
  omega
end Sl


set_option Elab.async false
set_option linter.all false
namespace OwnR
open PySem PySem.Spec L2
/-- sorted pairs (key, index): the stable order by key -/
theorem sorted_pairs_isort {xs ys : List V} {k : V → Int × Int} (hs : SrtO.Srtd (ltP k) ys) (hb : SrtO.Stb (ltP k) ys xs) (hi : ∀ (i : Nat) (x : V), xs[i]? = some x → (k x).2 = (i : Int)) :
    ys = (isort (xs.map fun x => ((k x).1, x))).map (·.2) := by
  have hx : xs.Pairwise fun a b => (k a).2 < (k b).2 := by
    rw [List.pairwise_iff_getElem]
    intro i j h1 h2 hij
    rw [hi i _ (List.getElem?_eq_getElem h1), hi j _ (List.getElem?_eq_getElem h2)]
    omega
  have inj : ∀ a b, a ∈ xs → b ∈ xs → (k a).2 = (k b).2 → a = b := by
    intro a b ha hb e
    obtain ⟨i, h1⟩ := List.mem_iff_getElem?.mp ha
    obtain ⟨j, h2⟩ := List.mem_iff_getElem?.mp hb
    rw [hi i a h1, hi j b h2] at e
    have : i = j := by omega
    subst this
    rw [h1] at h2
    exact Option.some.inj h2
  have hy : ys.Pairwise fun a b => ¬ ((k b).1 < (k a).1 ∨ ((k b).1 = (k a).1 ∧ (k b).2 < (k a).2)) := by
    refine List.Pairwise.imp ?_ hs
    intro a b h
    exact SrtO.lexB_no.mp h
  have e : (ys.map fun x => ((k x).1, x)) = isort (xs.map fun x => ((k x).1, x)) := by
    refine isort_unique ?_ fun z => ?_
    · rw [List.pairwise_map]
      refine List.Pairwise.imp ?_ hy
      intro a b h
      show (k a).1 ≤ (k b).1
      omega
    · rw [List.filter_map, List.filter_map]
      congr 1
      refine List.Perm.eq_of_pairwise (le := fun a b => (k a).2 ≤ (k b).2) (fun a b ha hb' h1 h2 => ?_) ?_ ?_ (hb.perm.filter _)
      · exact inj a b (hb.perm.mem_iff.mp (List.mem_filter.mp ha).1) (List.mem_filter.mp hb').1 (by omega)
      · refine List.Pairwise.imp_of_mem ?_ (List.Pairwise.sublist List.filter_sublist hy)
        intro a b ha hb' h
        have h1 : (k a).1 = z := by simpa using (List.mem_filter.mp ha).2
        have h2 : (k b).1 = z := by simpa using (List.mem_filter.mp hb').2
        omega
      · refine List.Pairwise.imp ?_ (List.Pairwise.sublist List.filter_sublist hx)
        intro a b h
        omega
  rw [← e, List.map_map]
  exact (List.map_id _).symm
end OwnR

set_option Elab.async false
set_option linter.all false
set_option maxRecDepth 100000
set_option maxHeartbeats 2000000
namespace Sl
open PySem PySem.Spec L2 OwnR LamX
theorem boot_max : bootBuiltins "max" = some (.builtin "max") := by decide +kernel
theorem boot_sortedB : bootBuiltins "sorted" = some (.builtin "sorted") := by decide +kernel
def pairK (H : Hp) (v : V) : Int × Int := match v with
  | .ref t => match H t with
    | some (.tup [.int a, .int b]) => (a, b)
    | _ => (0, 0)
  | _ => (0, 0)
theorem pairK_of {H : Hp} {t : Addr} {a b : Int} (h : H t = some (.tup [.int a, .int b])) : pairK H (.ref t) = (a, b) := by
  unfold pairK
  simp only [h]
/-- the rows (key, place), sorted -/
theorem sorted_idx {α : Type} {es : List α} {key : α → Int} {us : List Addr} {H : Hp} (hl : us.length = es.length) (uT : ∀ (i : Nat) (t : Addr) (x : α), us[i]? = some t → es[i]? = some x → H t = some (.tup [.int (key x), .int ((i : Nat) : Int)])) :
    (∀ x ∈ us.map V.ref, ∃ t, x = V.ref t ∧ H t = some (.tup [.int (pairK H x).1, .int (pairK H x).2])) ∧
    ∀ ys, SrtO.Srtd (ltP (pairK H)) ys → SrtO.Stb (ltP (pairK H)) ys (us.map V.ref) → ∃ L : List ((α × Nat) × Addr), ys = L.map (fun q => V.ref q.2) ∧ (∀ q ∈ L, H q.2 = some (.tup [.int (key q.1.1), .int ((q.1.2 : Nat) : Int)]) ∧ es[q.1.2]? = some q.1.1) ∧ L.map (fun q => q.1.1) = sortBy key es := by
  have hzl : es.zipIdx.length = us.length := by rw [List.length_zipIdx, hl]
  have zI : ∀ (i : Nat) (q : α × Nat), es.zipIdx[i]? = some q → q.2 = i ∧ es[i]? = some q.1 := fun i q e => by
    rw [List.getElem?_zipIdx] at e
    obtain ⟨x, e1, e2⟩ := Option.map_eq_some_iff.mp e
    rw [← e2]
    exact ⟨by simp, e1⟩
  have hT : ∀ (i : Nat) (t : Addr) (q : α × Nat), us[i]? = some t → es.zipIdx[i]? = some q → H t = some (.tup [.int (key q.1), .int ((q.2 : Nat) : Int)]) := fun i t q e1 e2 => by
    rw [(zI i q e2).1]
    exact uT i t q.1 e1 (zI i q e2).2
  refine ⟨fun x hx => ?_, fun ys hs hst => ?_⟩
  · obtain ⟨t, ht, rfl⟩ := List.mem_map.mp hx
    obtain ⟨i, hi⟩ := List.mem_iff_getElem?.mp ht
    obtain ⟨q, hq⟩ : ∃ q, es.zipIdx[i]? = some q := ⟨_, List.getElem?_eq_getElem (by rw [hzl]; exact (List.getElem?_eq_some_iff.mp hi).1)⟩
    have := hT i t q hi hq
    exact ⟨t, rfl, by rw [pairK_of this]; exact this⟩
  have hys := sorted_pairs_isort hs hst fun i x hx => by
    rw [List.getElem?_map] at hx
    obtain ⟨t, ht, rfl⟩ := Option.map_eq_some_iff.mp hx
    obtain ⟨q, hq⟩ : ∃ q, es.zipIdx[i]? = some q := ⟨_, List.getElem?_eq_getElem (by rw [hzl]; exact (List.getElem?_eq_some_iff.mp ht).1)⟩
    rw [pairK_of (hT i t q ht hq), (zI i q hq).1]
  have hzm : ∀ q ∈ es.zipIdx.zip us, H q.2 = some (.tup [.int (key q.1.1), .int ((q.1.2 : Nat) : Int)]) ∧ es[q.1.2]? = some q.1.1 := fun q hq => by
    obtain ⟨i, hi⟩ := List.mem_iff_getElem?.mp hq
    obtain ⟨e1, e2⟩ := List.getElem?_zip_eq_some.mp hi
    refine ⟨hT i _ _ e2 e1, ?_⟩
    rw [(zI i _ e1).1]
    exact (zI i _ e1).2
  have hus : us.map V.ref = (es.zipIdx.zip us).map fun q => V.ref q.2 := by
    conv => lhs; rw [← List.map_snd_zip (l₁ := es.zipIdx) (l₂ := us) (by omega)]
    rw [List.map_map]
    rfl
  refine ⟨sortBy (fun q : (α × Nat) × Addr => key q.1.1) (es.zipIdx.zip us), ?_, fun q hq => hzm q ((sortBy_perm _ _).mem_iff.mp hq), ?_⟩
  · rw [hys, hus, List.map_map]
    have e1 : ((es.zipIdx.zip us).map ((fun x => ((pairK H x).1, x)) ∘ fun q => V.ref q.2)) = ((es.zipIdx.zip us).map fun q => (key q.1.1, q)).map fun r => (r.1, V.ref r.2.2) := by
      rw [List.map_map]
      refine List.map_congr_left fun q hq => ?_
      show ((pairK H (V.ref q.2)).1, V.ref q.2) = (key q.1.1, V.ref q.2)
      rw [pairK_of (hzm q hq).1]
    rw [e1, isort_map (fun q : (α × Nat) × Addr => V.ref q.2), List.map_map]
    unfold sortBy
    rw [List.map_map]
    rfl
  · have e1 : (es.zipIdx.zip us).map (fun q => q.1.1) = es := by
      have h := List.map_fst_zip (l₁ := es.zipIdx) (l₂ := us) (by omega)
      have h2 : es.zipIdx.map Prod.fst = es := by simp
      have h4 : (es.zipIdx.zip us).map (fun q => q.1.1) = ((es.zipIdx.zip us).map Prod.fst).map Prod.fst := by rw [List.map_map]; rfl
      rw [h4, h, h2]
    have e2 := sortBy_map (fun q : (α × Nat) × Addr => q.1.1) (fun q => key q.1.1) key (es.zipIdx.zip us) (fun _ _ => rfl)
    conv => rhs; rw [← e1]
    exact e2.symm
theorem lostS {H H' : Hp} {D : Addr} (s : Same H H') (h : H' D = none) : H D = none := by
  cases e : H D with
  | none => rfl
  | some o => exact absurd ((s _ _ e).symm.trans h) (fun z => nomatch z)
theorem gSt {H : Hp} {a : Addr} {kvs : List (Key × V)} {n : Str} {v : V} (e : H a = some (.dK kvs)) (h : valV kvs (Sum.inr n : Key) = some v) : DGet H a (.str n) (some v) := by
  have := DGet.k (k := (Sum.inr n : Key)) e
  rw [h] at this
  exact this
/-! ### dict(a list of pairs) -/
theorem mergeK_go : ∀ (more kvs : List (Key × V)), (kvs.map (·.1) ++ more.map (·.1)).Nodup → mergeK kvs more = kvs ++ more
  | [], kvs, _ => by rw [List.append_nil]; rfl
  | (k, x) :: more, kvs, h => by
    have hk : k ∉ kvs.map (·.1) := fun z => by
      have := (List.nodup_append.mp h).2.2 k z k List.mem_cons_self
      exact this rfl
    show mergeK (putK kvs k x) more = _
    rw [putK_new x (keys_none hk), mergeK_go more (kvs ++ [(k, x)]) (by rw [List.map_append, List.append_assoc]; exact h), List.append_assoc]
    rfl
theorem mergeK_new {kvs : List (Key × V)} (h : (kvs.map (·.1)).Nodup) : mergeK [] kvs = kvs := by
  have := mergeK_go kvs [] (by simpa using h)
  simpa using this
theorem paired_of {K : PySem.W.Frag} {H : Hp} : ∀ {ts : List Addr} {kvs : List (Key × V)}, ts.length = kvs.length → (∀ (i : Nat) (t : Addr) (kv : Key × V), ts[i]? = some t → kvs[i]? = some kv → SqT K H t [kV kv.1, kv.2]) → Paired (fun p kv => SqT K H p [kV kv.1, kv.2]) ts kvs
  | [], [], _, _ => .nil
  | [], _ :: _, h, _ => by cases h
  | _ :: _, [], h, _ => by cases h
  | t :: ts, kv :: kvs, h, f => .cons (f 0 t kv rfl rfl) (paired_of (by simpa using h) fun i a b e1 e2 => f (i + 1) a b (by simpa using e1) (by simpa using e2))
theorem names_keys {cars : List Car} (nd : (names cars).Nodup) : (cars.map fun c => (Sum.inr c.name : Key)).Nodup := by
  have : (cars.map fun c => (Sum.inr c.name : Key)) = (names cars).map fun n => (Sum.inr n : Key) := by
    unfold names
    rw [List.map_map]
    rfl
  rw [this]
  exact List.Pairwise.map _ (fun a b (h : a ≠ b) z => h (Sum.inr.inj z)) nd
def tkK (cars : List Car) (ds : List Addr) : List (Key × V) := (cars.zip ds).map fun q => ((Sum.inr q.1.name : Key), V.ref q.2)
theorem tkK_keys {cars : List Car} {ds : List Addr} (h : ds.length = cars.length) : (tkK cars ds).map (·.1) = cars.map fun c => (Sum.inr c.name : Key) := by
  unfold tkK
  have : (cars.zip ds).map Prod.fst = cars := List.map_fst_zip (by omega)
  conv => rhs; rw [← this]
  rw [List.map_map, List.map_map]
  rfl
theorem tkK_get : ∀ {cars : List Car} {ds : List Addr} {q : Nat} {c : Car} {d : Addr}, (names cars).Nodup → cars[q]? = some c → ds[q]? = some d → valV (tkK cars ds) (Sum.inr c.name : Key) = some (.ref d)
  | [], _, _, _, _, _, h1, _ => by simp at h1
  | _ :: _, [], _, _, _, _, _, h2 => by simp at h2
  | a :: l, b :: r, 0, c, d, _, h1, h2 => by
    have e1 : a = c := by simpa using h1
    have e2 : b = d := by simpa using h2
    subst e1 e2
    exact valV_pos rfl
  | a :: l, b :: r, q + 1, c, d, nd, h1, h2 => by
    have h1' : l[q]? = some c := by simpa using h1
    have nd' : (a.name :: names l).Nodup := nd
    have hne : ¬ (Sum.inr a.name : Key) = Sum.inr c.name := fun z => (List.nodup_cons.mp nd').1 (by rw [Sum.inr.inj z]; exact List.mem_map_of_mem (List.mem_of_getElem? h1'))
    show valV (((Sum.inr a.name : Key), V.ref b) :: tkK l r) _ = _
    rw [valV_neg hne]
    exact tkK_get (List.nodup_cons.mp nd').2 h1' (by simpa using h2)
def ownK (ord : List Str) (fr : Str → Int) : List (Key × V) := ord.map fun n => ((Sum.inr n : Key), V.int (fr n))
theorem ownK_get {fr : Str → Int} {n : Str} : ∀ {ord : List Str}, n ∈ ord → valV (ownK ord fr) (Sum.inr n : Key) = some (.int (fr n))
  | [], h => nomatch h
  | a :: l, h => by
    by_cases e : a = n
    · subst e
      exact valV_pos rfl
    · show valV (((Sum.inr a : Key), V.int (fr a)) :: ownK l fr) _ = _
      rw [valV_neg fun z => e (Sum.inr.inj z)]
      exact ownK_get ((List.mem_cons.mp h).resolve_left fun z => e z.symm)
theorem ownK_keys {ord : List Str} {fr : Str → Int} (nd : ord.Nodup) : ((ownK ord fr).map (·.1)).Nodup := by
  unfold ownK
  rw [List.map_map]
  exact List.Pairwise.map _ (fun a b (h : a ≠ b) z => h (Sum.inr.inj z)) nd
/-! ### what a drive holds while it is driven -/
structure DrC (H0 H : Hp) (secs : List Sec) (cars : List Car) (i : Nat) (g : Str → List Int) (TK PD OD : Addr) (ds os : List Addr) : Prop where
  same : Same H0 H
  tk : H TK = some (.dK (tkK cars ds))
  dl : ds.length = cars.length
  dv : ∀ (q : Nat) (c : Car) (d : Addr), cars[q]? = some c → ds[q]? = some d → H d = some (.lst ((g c.name).map V.int))
  gne : ∀ n, g n ≠ []
  dn : ds.Nodup
  dnew : ∀ d ∈ ds, H0 d = none
  pd : H PD = some (.dK (paceK cars))
  od : H OD = some (.lst (os.map V.ref))
  ol : os.length = i + 1
  ov : ∀ (k : Nat) (d : Addr), os[k]? = some d → H d = some (.lst ((plcC secs cars k).ord.map V.str))
  odn : H0 OD = none
section
variable {H0 H H' : Hp} {secs : List Sec} {cars : List Car} {i : Nat} {g : Str → List Int} {TK PD OD : Addr} {ds os : List Addr}
theorem DrC.step (D : DrC H0 H secs cars i g TK PD OD ds os) (e : Same H H') : DrC H0 H' secs cars i g TK PD OD ds os :=
  ⟨D.same.trans e, e _ _ D.tk, D.dl, fun q c d h1 h2 => e _ _ (D.dv q c d h1 h2), D.gne, D.dn, D.dnew, e _ _ D.pd, e _ _ D.od, D.ol, fun k d h => e _ _ (D.ov k d h), D.odn⟩
theorem DrC.congr (D : DrC H0 H secs cars i g TK PD OD ds os) {g' : Str → List Int} (h : ∀ c ∈ cars, g c.name = g' c.name) (hn : ∀ n, g' n ≠ []) : DrC H0 H secs cars i g' TK PD OD ds os :=
  { D with dv := fun q c d h1 h2 => by rw [← h c (List.mem_of_getElem? h1)]; exact D.dv q c d h1 h2, gne := hn }
/-- a tick is put behind a car's list: what stays -/
theorem DrC.tickKeep (D : DrC H0 H secs cars i g TK PD OD ds os) {q : Nat} {c : Car} {d : Addr} (hq : cars[q]? = some c) (hd : ds[q]? = some d) (o' : HO) :
    (∀ b o, H b = some o → (∀ xs, o ≠ .lst xs) → upd H d o' b = some o) ∧ (∀ b (m : List Str), H b = some (.lst (m.map V.str)) → upd H d o' b = some (.lst (m.map V.str))) ∧ ∀ b (m : List Addr), H b = some (.lst (m.map V.ref)) → upd H d o' b = some (.lst (m.map V.ref)) := by
  have hc := D.dv q c d hq hd
  exact ⟨fun b o e n => by rw [upd_ne (ne_of e hc (n _))]; exact e, fun b m e => by rw [upd_ne (ne_of e hc (ints_str (D.gne _)).symm)]; exact e, fun b m e => by rw [upd_ne (ne_of e hc (ints_ref (D.gne _)).symm)]; exact e⟩
theorem DrC.tick (D : DrC H0 H secs cars i g TK PD OD ds os) (nd : (names cars).Nodup) {q : Nat} {c : Car} {d : Addr} (hq : cars[q]? = some c) (hd : ds[q]? = some d) (x : Int) :
    DrC H0 (upd H d (.lst ((g c.name).map V.int ++ [.int x]))) secs cars i (fun n => if n = c.name then g c.name ++ [x] else g n) TK PD OD ds os := by
  obtain ⟨kl, ks, kr⟩ := D.tickKeep hq hd (.lst ((g c.name).map V.int ++ [.int x]))
  have nw := D.dnew d (List.mem_of_getElem? hd)
  refine { D with same := fun b o e => ?_, tk := kl _ _ D.tk fun _ z => (nomatch z), dv := ?_, gne := ?_, pd := kl _ _ D.pd fun _ z => (nomatch z), od := kr _ _ D.od, ov := fun k b h => ks _ _ (D.ov k b h) }
  · rw [upd_ne (ne_of_none e nw)]
    exact D.same b o e
  · intro q' c' d' h1 h2
    by_cases e : d' = d
    · subst e
      have : q' = q := nd_ix D.dn h2 hd
      subst this
      rw [hq] at h1
      cases h1
      rw [upd_same]
      show _ = some (HO.lst ((if c.name = c.name then g c.name ++ [x] else g c.name).map V.int))
      rw [if_pos rfl, List.map_append]
      rfl
    · rw [upd_ne e]
      have hne : ¬ c'.name = c.name := fun z => by
        have a1 : (names cars)[q']? = some c.name := by unfold names; rw [List.getElem?_map, h1]; exact congrArg some z
        have a2 : (names cars)[q]? = some c.name := by unfold names; rw [List.getElem?_map, hq]; rfl
        have := nd_ix nd a1 a2
        subst this
        rw [hd] at h2
        exact e (Option.some.inj h2).symm
      show _ = some (HO.lst ((if c'.name = c.name then g c.name ++ [x] else g c'.name).map V.int))
      rw [if_neg hne]
      exact D.dv q' c' d' h1 h2
  · intro n
    show (if n = c.name then g c.name ++ [x] else g n) ≠ []
    split
    · simp
    · exact D.gne n
theorem refs_strs {os : List Addr} {m : List Str} (h : os ≠ []) : (HO.lst (m.map V.str)) ≠ .lst (os.map V.ref) := fun z => by
  cases os with
  | nil => exact h rfl
  | cons a r =>
    cases m with
    | nil => cases z
    | cons b q => cases z
theorem DrC.one (D : DrC H0 H secs cars i g TK PD OD ds os) : os ≠ [] := fun z => by have := D.ol; rw [z] at this; simp at this
/-- the section's order is put behind the list -/
theorem DrC.put (D : DrC H0 H secs cars i g TK PD OD ds os) {o' : Addr} (ho : H o' = some (.lst ((plcC secs cars (i + 1)).ord.map V.str))) :
    DrC H0 (upd H OD (.lst (os.map V.ref ++ [.ref o']))) secs cars (i + 1) g TK PD OD ds (os ++ [o']) := by
  have one := D.one
  have kl : ∀ b o, H b = some o → (∀ xs, o ≠ .lst xs) → upd H OD (.lst (os.map V.ref ++ [.ref o'])) b = some o := fun b o e n => by rw [upd_ne (ne_of e D.od (n _))]; exact e
  have ks : ∀ b (m : List Str), H b = some (.lst (m.map V.str)) → upd H OD (.lst (os.map V.ref ++ [.ref o'])) b = some (.lst (m.map V.str)) := fun b m e => by rw [upd_ne (ne_of e D.od (refs_strs one))]; exact e
  refine { D with same := fun b o e => ?_, tk := kl _ _ D.tk fun _ z => (nomatch z), dv := fun q c d h1 h2 => ?_, pd := kl _ _ D.pd fun _ z => (nomatch z), od := by rw [upd_same, List.map_append]; rfl, ol := by rw [List.length_append, D.ol]; rfl, ov := fun k b h => ?_ }
  · rw [upd_ne (ne_of_none e D.odn)]
    exact D.same b o e
  · have e := D.dv q c d h1 h2
    rw [upd_ne (ne_of e D.od (ints_ref (D.gne _)))]
    exact e
  · rcases snoc_get h with h | ⟨hk, rfl⟩
    · exact ks _ _ (D.ov k b h)
    · rw [hk, D.ol]
      exact ks _ _ ho
end
/-- the ticks up to a section, and those of the first cars behind it -/
def gA (secs : List Sec) (cars : List Car) (i : Nat) (l : List Str) (n : Str) : List Int := tkl secs cars i n ++ (if n ∈ l then [(plcC secs cars (i + 1)).tk n] else [])
theorem gA_ne (secs : List Sec) (cars : List Car) (i : Nat) (l : List Str) (n : Str) : gA secs cars i l n ≠ [] := by
  obtain ⟨r, e⟩ := tkl_last secs cars i n
  unfold gA
  rw [e]
  simp
theorem gA_len (secs : List Sec) (cars : List Car) (i : Nat) (l : List Str) (n : Str) : (gA secs cars i l n).length ≤ i + 2 := by
  unfold gA tkl
  rw [List.length_append, List.length_map, List.length_range]
  split
  · show i + 1 + 1 ≤ i + 2
    omega
  · show i + 1 + 0 ≤ i + 2
    omega
theorem gA_nil (secs : List Sec) (cars : List Car) (i : Nat) : gA secs cars i [] = tkl secs cars i := by
  funext n
  unfold gA
  rw [if_neg (by simp), List.append_nil]
theorem gA_step {secs : List Sec} {cars : List Car} {i : Nat} {l : List Str} {m n : Str} (h : m ∉ l) : (if n = m then gA secs cars i l m ++ [(plcC secs cars (i + 1)).tk m] else gA secs cars i l n) = gA secs cars i (l ++ [m]) n := by
  unfold gA
  by_cases e : n = m
  · subst e
    rw [if_pos rfl, if_neg h, if_pos (by simp), List.append_nil]
  · rw [if_neg e]
    congr 1
    by_cases hn : n ∈ l
    · rw [if_pos hn, if_pos (by simp [hn])]
    · rw [if_neg hn, if_neg (by simp [hn, e])]
theorem gA_all {secs : List Sec} {cars : List Car} {i : Nat} {l : List Str} {n : Str} (h : n ∈ l) : gA secs cars i l n = tkl secs cars (i + 1) n := by
  unfold gA
  rw [if_pos h, tkl_succ]
theorem ord_start {cars : List Car} (nd : (names cars).Nodup) : (sortBy (·.start) cars).map (·.name) = (pl0 cars).ord := by
  show _ = sortBy (startOf cars) (names cars)
  exact (sortBy_map (fun c : Car => c.name) (·.start) (startOf cars) cars fun c hc => startOf_car nd hc).symm
theorem plc_len {secs : List Sec} {cars : List Car} {i : Nat} : (plcC secs cars i).ord.length = cars.length := by
  rw [(plcC_perm secs cars i).length_eq]
  exact List.length_map ..
theorem plc_nd {secs : List Sec} {cars : List Car} {i : Nat} (nd : (names cars).Nodup) : (plcC secs cars i).ord.Nodup := (plcC_perm secs cars i).nodup_iff.mpr nd
theorem plc_mem {secs : List Sec} {cars : List Car} {i : Nat} {n : Str} : n ∈ (plcC secs cars i).ord ↔ n ∈ names cars := (plcC_perm secs cars i).mem_iff
theorem plc_next {secs : List Sec} {cars : List Car} {i : Nat} {s : Sec} (h : secs[i]? = some s) : plcC secs cars (i + 1) = stepP (paceOf cars) (plcC secs cars i) s := plc_succ _ _ _ h
/-- the own tick of a car in a section -/
abbrev frC (secs : List Sec) (cars : List Car) (i len : Nat) (n : Str) : Int := freeP (paceOf cars) (plcC secs cars i) len n
theorem wide_tk {secs : List Sec} {cars : List Car} {i len : Nat} (h : secs[i]? = some (true, len)) (n : Str) : (plcC secs cars (i + 1)).tk n = frC secs cars i len n := by rw [plc_next h]; rfl
theorem wide_ord {secs : List Sec} {cars : List Car} {i len : Nat} (h : secs[i]? = some (true, len)) : (plcC secs cars (i + 1)).ord = sortBy (frC secs cars i len) (plcC secs cars i).ord := by rw [plc_next h]; rfl
theorem narrow_ord {secs : List Sec} {cars : List Car} {i len : Nat} (h : secs[i]? = some (false, len)) : (plcC secs cars (i + 1)).ord = (plcC secs cars i).ord := by rw [plc_next h]; rfl
theorem narrow_max {secs : List Sec} {cars : List Car} (nd : (names cars).Nodup) {i len k : Nat} (h : secs[i]? = some (false, len)) {n : Str} (hn : (plcC secs cars i).ord[k]? = some n) {m : Int} (hm : m ∈ ((plcC secs cars i).ord.take (k + 1)).map (frC secs cars i len)) (hx : ∀ y, y ∈ ((plcC secs cars i).ord.take (k + 1)).map (frC secs cars i len) → y ≤ m) : m = (plcC secs cars (i + 1)).tk n := by
  have e : (plcC secs cars (i + 1)).tk n = tickOf (foll (frC secs cars i len) (plcC secs cars i).ord) n := by rw [plc_next h]; rfl
  obtain ⟨h1, j, y, h2, h3, h4⟩ := tick_max (frC secs cars i len) (plc_nd (secs := secs) (i := i) nd) hn
  rw [e]
  apply Int.le_antisymm
  · obtain ⟨x, hx1, rfl⟩ := List.mem_map.mp hm
    obtain ⟨q, hq⟩ := List.mem_iff_getElem?.mp hx1
    have hqk : q < k + 1 := by
      have := (List.getElem?_eq_some_iff.mp hq).1
      rw [List.length_take] at this
      omega
    rw [List.getElem?_take_of_lt hqk] at hq
    exact h1 q x (by omega) hq
  · rw [← h4]
    refine hx _ (List.mem_map_of_mem (List.mem_iff_getElem?.mpr ⟨j, ?_⟩))
    rw [List.getElem?_take_of_lt (by omega)]
    exact h3
end Sl



set_option Elab.async false
set_option linter.all false
set_option maxRecDepth 100000
set_option maxHeartbeats 4000000
namespace Sl
open PySem PySem.Spec L2 OwnR LamX
theorem boot_tDict : bootBuiltins "dict" = some (.type "dict") := by decide +kernel
def nDriveC : List Str := ["_law_sections_here", "_law_cars_here", "_law_keyed", "_law_order", "_law_paces", "_law_ticks", "_law_orders", "_law_kind", "_law_length", "_law_name", "_law_own", "_law_k", "_law_start", "_law_car", "_law_tick"]
theorem scDriveC : FnScope nDriveC ["_law_sections_here", "_law_cars_here"] (defScope sLDrive) := ⟨rfl, rfl, rfl, by decide +kernel, rfl, by decide +kernel, by decide +kernel⟩
section
variable {P : Program} {w : World} {K : PySem.W.Frag} {mg : Str → Option Value} {base : Heap}
def spDriveC : Sp := fun vs H Q _ => ∃ (s a : Addr) (secs : List Sec) (cars : List Car), vs = [.ref s, .ref a] ∧ SecsAt H s secs ∧ CarsAt H a cars ∧ secs.length ≤ 100 ∧ CarsOk cars ∧
  ∀ H' t tk od, Same H H' → H' t = some (.tup [.ref tk, .ref od]) → TksAt H' tk secs cars → OrdsAt H' od secs cars → Q (.ref t) H'
theorem ok_driveC {f : Addr} {fd : FuncData} (F : Fun K "_law_drive" "_law_drive" sLDrive f fd) (M : Mg mg) (mdc : mg "dict" = none) (mmx : mg "max" = none) : FnOk P w K mg base CX0 2 f fd ["_law_sections_here", "_law_cars_here"] spDriveC := by
  refine F.ok scDriveC (fun vs H Q E h => ?_) (fun cdv A outer s H vs Q E hr h => ?_)
  · obtain ⟨s, a, secs, cars, rfl, _⟩ := h
    rfl
  · obtain ⟨sl, a, secs, cars, rfl, hS, hC, h100, CO, k⟩ := h
    have nd := scDriveC.nd
    have hu := hu_of hr
    refine ⟨_, (pss_cons (ps_set (i := 2) nd rfl (.inl rfl) (pe_callB cr_sortedPO (by rfl) M.sorted boot_sortedB (pa_cons (pe_lc (own := [("_law_k", 11)]) (g := gName 11) (tt := tYes) (te := tTup (tCons (tOp (rIxT K) (tOp (rIxT K) (tVar 1) (tVar 11)) (tC (.int 1))) (tCons (tVar 11) tNil))) (by rfl) nd (pi_range1 (by rfl) M.range (pa_cons (pe_callB call_len_seq (by rfl) M.len boot_len (pa_cons (pv 1) pa_nil)) pa_nil)) (blkOk_by (N := nDriveC) (sc := defScope sLDrive) (by decide +kernel)) (fun _ _ _ _ _ => pg_name (i := 11) nd rfl (Or.inl rfl)) (fun _ _ _ _ _ => pts_nil) (fun _ _ _ _ _ => pe_tup (pa_cons (pe_ix (r := rIxT K) ix_tup (pe_ix (r := rIxT K) ix_tup (pv 1) (pv 11) (fun _ _ => rfl)) pe_int (fun _ _ => rfl)) (pa_cons (pv 11) pa_nil)))) pa_nil))) (pss_cons (ps_set (i := 3) nd rfl (.inr rfl) (pe_lc (own := [("_law_start", 12), ("_law_k", 11)]) (g := gTup K 2 (gCons (gName 12) (gCons (gName 11) gNil))) (tt := tYes) (te := tOp (rIxT K) (tOp (rIxT K) (tVar 1) (tVar 11)) (tC (.int 0))) (by rfl) nd (pi_list (pv 2)) (blkOk_by (N := nDriveC) (sc := defScope sLDrive) (by decide +kernel)) (fun _ _ _ _ _ => pg_tup rfl (pgs_cons (pg_name (i := 12) nd rfl (Or.inl rfl)) (pgs_cons (pg_name (i := 11) nd rfl (Or.inl rfl)) pgs_nil))) (fun _ _ _ _ _ => pts_nil) (fun _ _ _ _ _ => pe_ix (r := rIxT K) ix_tup (pe_ix (r := rIxT K) ix_tup (pv 1) (pv 11) (fun _ _ => rfl)) pe_int (fun _ _ => rfl)))) (pss_cons (ps_set (i := 4) nd rfl (.inr rfl) (pe_callTy (call_dictP rfl) (by rfl) mdc boot_tDict (pa_cons (pe_lc (own := [("_law_car", 13)]) (g := gName 13) (tt := tYes) (te := tTup (tCons (tOp (rIxT K) (tVar 13) (tC (.int 0))) (tCons (tOp (rIxT K) (tVar 13) (tC (.int 2))) tNil))) (by rfl) nd (pi_tup (pv 1)) (blkOk_by (N := nDriveC) (sc := defScope sLDrive) (by decide +kernel)) (fun _ _ _ _ _ => pg_name (i := 13) nd rfl (Or.inl rfl)) (fun _ _ _ _ _ => pts_nil) (fun _ _ _ _ _ => pe_tup (pa_cons (pe_ix (r := rIxT K) ix_tup (pv 13) pe_int (fun _ _ => rfl)) (pa_cons (pe_ix (r := rIxT K) ix_tup (pv 13) pe_int (fun _ _ => rfl)) pa_nil)))) pa_nil))) (pss_cons (ps_asg (pe_tup (pa_cons (pe_callTy (call_dictP rfl) (by rfl) mdc boot_tDict (pa_cons (pe_lc (own := [("_law_car", 13)]) (g := gName 13) (tt := tYes) (te := tTup (tCons (tOp (rIxT K) (tVar 13) (tC (.int 0))) (tCons (tLst (tCons (tOp (rIxT K) (tVar 13) (tC (.int 1))) tNil)) tNil))) (by rfl) nd (pi_tup (pv 1)) (blkOk_by (N := nDriveC) (sc := defScope sLDrive) (by decide +kernel)) (fun _ _ _ _ _ => pg_name (i := 13) nd rfl (Or.inl rfl)) (fun _ _ _ _ _ => pts_nil) (fun _ _ _ _ _ => pe_tup (pa_cons (pe_ix (r := rIxT K) ix_tup (pv 13) pe_int (fun _ _ => rfl)) (pa_cons (pe_lst (pa_cons (pe_ix (r := rIxT K) ix_tup (pv 13) pe_int (fun _ _ => rfl)) pa_nil)) pa_nil)))) pa_nil)) (pa_cons (pe_lst (pa_cons (pv 3) pa_nil)) pa_nil))) (pg_tup rfl (pgs_cons (pg_name (i := 5) nd rfl (.inr rfl)) (pgs_cons (pg_name (i := 6) nd rfl (.inl rfl)) pgs_nil)))) (pss_cons (ps_for PassesOwn.never rfl (pi_tup (pv 0)) (pg_tup rfl (pgs_cons (pg_name (i := 7) nd rfl (.inl rfl)) (pgs_cons (pg_name (i := 8) nd rfl (.inr rfl)) pgs_nil))) (pss_cons (ps_set (i := 10) nd rfl (.inr rfl) (pe_callTy (call_dictP rfl) (by rfl) mdc boot_tDict (pa_cons (pe_lc (own := [("_law_name", 9)]) (g := gName 9) (tt := tYes) (te := tTup (tCons (tVar 9) (tCons (tOp (rI0 fun i j => .int (i + j)) (tOp (rIxL K) (tDGet (tVar 5) (tVar 9)) (tUn (rU fun i => .int (-i)) (tC (.int 1)))) (tOp (rI CMul fun i j => .int (i * j)) (tDGet (tVar 4) (tVar 9)) (tVar 8))) tNil))) (by rfl) nd (pi_list (pv 3)) (blkOk_by (N := nDriveC) (sc := defScope sLDrive) (by decide +kernel)) (fun _ _ _ _ _ => pg_name (i := 9) nd rfl (Or.inl rfl)) (fun _ _ _ _ _ => pts_nil) (fun _ _ _ _ _ => pe_tup (pa_cons (pv 9) (pa_cons (pe_op op_add (pe_ix (r := rIxL K) ix_list (pe_dget hu (pv 5) (pv 9) (fun _ _ => rfl)) (pe_un un_neg pe_int) (fun _ _ => rfl)) (pe_op op_mul (pe_dget hu (pv 4) (pv 9) (fun _ _ => rfl)) (pv 8))) pa_nil)))) pa_nil))) (pss_cons (ps_if (pt_cmpR op_eq (pv 7) pe_str (nomark _)) (pss_one (ps_for PassesOwn.never rfl (pi_range1 (by rfl) M.range (pa_cons (pe_callB call_len_seq (by rfl) M.len boot_len (pa_cons (pv 3) pa_nil)) pa_nil)) (pg_name (i := 11) nd rfl (.inl rfl)) (pss_one (ps_expr (pe_bm PySem.F.plainAttrs_list PySem.F.slot_list_append PySem.F.type_list_append mt_append (pe_dget hu (pv 5) (pe_ix (r := rIxL K) ix_list (pv 3) (pv 11) (fun _ _ => rfl)) (fun _ _ => rfl)) (pa_cons (pe_callB (cr_max rfl) (by rfl) mmx boot_max (pa_cons (pe_lc (own := [("_law_name", 9)]) (g := gName 9) (tt := tYes) (te := tDGet (tVar 10) (tVar 9)) (by rfl) nd (pi_list (pe_slice sl_list (pv 3) po_none (po_some (pe_op op_add (pv 11) pe_int)))) (blkOk_by (N := nDriveC) (sc := defScope sLDrive) (by decide +kernel)) (fun _ _ _ _ _ => pg_name (i := 9) nd rfl (Or.inl rfl)) (fun _ _ _ _ _ => pts_nil) (fun _ _ _ _ _ => pe_dget hu (pv 10) (pv 9) (fun _ _ => rfl))) pa_nil)) pa_nil)))))) (pss_cons (ps_for PassesOwn.never rfl (pi_list (pv 3)) (pg_name (i := 9) nd rfl (.inl rfl)) (pss_one (ps_expr (pe_bm PySem.F.plainAttrs_list PySem.F.slot_list_append PySem.F.type_list_append mt_append (pe_dget hu (pv 5) (pv 9) (fun _ _ => rfl)) (pa_cons (pe_dget hu (pv 10) (pv 9) (fun _ _ => rfl)) pa_nil))))) (pss_one (ps_set (i := 3) nd rfl (.inr rfl) (pe_lc (own := [("_law_tick", 14), ("_law_k", 11)]) (g := gTup K 2 (gCons (gName 14) (gCons (gName 11) gNil))) (tt := tYes) (te := tOp (rIxL K) (tVar 3) (tVar 11)) (by rfl) nd (pi_list (pe_callB cr_sortedPO (by rfl) M.sorted boot_sortedB (pa_cons (pe_lc (own := [("_law_k", 11)]) (g := gName 11) (tt := tYes) (te := tTup (tCons (tDGet (tVar 10) (tOp (rIxL K) (tVar 3) (tVar 11))) (tCons (tVar 11) tNil))) (by rfl) nd (pi_range1 (by rfl) M.range (pa_cons (pe_callB call_len_seq (by rfl) M.len boot_len (pa_cons (pv 3) pa_nil)) pa_nil)) (blkOk_by (N := nDriveC) (sc := defScope sLDrive) (by decide +kernel)) (fun _ _ _ _ _ => pg_name (i := 11) nd rfl (Or.inl rfl)) (fun _ _ _ _ _ => pts_nil) (fun _ _ _ _ _ => pe_tup (pa_cons (pe_dget hu (pv 10) (pe_ix (r := rIxL K) ix_list (pv 3) (pv 11) (fun _ _ => rfl)) (fun _ _ => rfl)) (pa_cons (pv 11) pa_nil)))) pa_nil))) (blkOk_by (N := nDriveC) (sc := defScope sLDrive) (by decide +kernel)) (fun _ _ _ _ _ => pg_tup rfl (pgs_cons (pg_name (i := 14) nd rfl (Or.inl rfl)) (pgs_cons (pg_name (i := 11) nd rfl (Or.inl rfl)) pgs_nil))) (fun _ _ _ _ _ => pts_nil) (fun _ _ _ _ _ => pe_ix (r := rIxL K) ix_list (pv 3) (pv 11) (fun _ _ => rfl))))))) (pss_one (ps_expr (pe_bm PySem.F.plainAttrs_list PySem.F.slot_list_append PySem.F.type_list_append mt_append (pv 6) (pa_cons (pv 3) pa_nil))))))) (pss_one (ps_ret (pe_tup (pa_cons (pv 5) (pa_cons (pv 6) pa_nil)))))))))), ?_⟩
    have ndn : (names cars).Nodup := CO.nd
    obtain ⟨ts, a1, a2, a3⟩ := id hC
    have hal : (ts.map V.ref).length = cars.length := by rw [List.length_map, a2]
    have few := CO.few
    have carAt : ∀ (i : Nat) (c : Car), cars[i]? = some c → ∃ t, ts[i]? = some t ∧ H t = some (.tup c.vs) := fun i c e => by
      obtain ⟨t, ht⟩ : ∃ t, ts[i]? = some t := ⟨_, List.getElem?_eq_getElem (by rw [a2]; exact (List.getElem?_eq_some_iff.mp e).1)⟩
      exact ⟨t, ht, a3 i t c ht e⟩
    refine ⟨_, rfl, a, _, rfl, .inr (SqT.of a1), (((ts.map V.ref).length : Nat) : Int), rfl, by omega, by omega, fun W hW => ?_⟩
    rw [Int.toNat_natCast, hal]
    refine lc_it walk_range (fun i H1 => Same H H1 ∧ TupsAt H1 W ((cars.take i).zipIdx.map fun q => [V.int q.1.start, V.int ((q.2 : Nat) : Int)]))
      ⟨newS hW _, tups_nil upd_same⟩ (fun _ _ _ _ => True.intro) ?_ ?_
    · rintro i z H1 H2 hi ⟨k1, T1⟩ ⟨e, ez⟩
      obtain rfl : z = V.int ((i : Nat) : Int) := ez.trans (congrArg V.int (by omega))
      clear ez
      subst e
      obtain ⟨c, hc⟩ : ∃ x, cars[i]? = some x := ⟨_, List.getElem?_eq_getElem hi⟩
      obtain ⟨t, ht, htv⟩ := carAt i c hc
      obtain ⟨us, u1, u2, u3⟩ := id T1
      refine ⟨rfl, yes_of ?_⟩
      refine ⟨_, rfl, _, rfl, a, _, _, _, rfl, rfl, SqT.of (k1 _ _ a1), atI_nat (map_at V.ref ht), t, _, _, _, rfl, rfl, SqT.of (k1 _ _ htv), rfl, ?_⟩
      refine ⟨_, rfl, by show 2 ≤ sizeLine; decide, fun x hx => ?_⟩
      refine ⟨us.map V.ref, by rw [upd_ne (ne_of_none u1 hx)]; exact u1, ?_, fun p o e => ?_, ?_⟩
      · rw [List.length_map, u2, List.length_map, List.length_zipIdx, List.length_take]
        exact small1000 (by omega)
      · have e4 := k1 _ _ e
        rw [upd_ne (ne_of_none e hW), upd_ne (ne_of_none e4 hx)]
        exact e4
      · have := tups_push u1 u2 u3 hx [V.int c.start, V.int ((i : Nat) : Int)]
        have e2 : (cars.take (i + 1)).zipIdx.map (fun q => [V.int q.1.start, V.int ((q.2 : Nat) : Int)]) = (cars.take i).zipIdx.map (fun q => [V.int q.1.start, V.int ((q.2 : Nat) : Int)]) ++ [[V.int c.start, V.int ((i : Nat) : Int)]] := by
          rw [List.take_succ, hc, List.zipIdx_append, List.map_append, List.length_take, Nat.min_eq_left (Nat.le_of_lt hi)]
          simp
        rw [e2]
        exact this
    rintro H1 ⟨k1, T1⟩
    rw [List.take_length] at T1
    obtain ⟨us, u1, u2, u3⟩ := T1
    rw [List.length_map, List.length_zipIdx] at u2
    obtain ⟨q1, q2⟩ := sorted_idx (es := cars) (key := (·.start)) (us := us) (H := H1) u2 fun i t c e1 e2 => u3 i t _ e1 (by rw [List.getElem?_map, List.getElem?_zipIdx, e2]; simp)
    refine ⟨W, us.map V.ref, pairK H1, rfl, SqL.of u1, q1, fun ys p hs hst hp => ?_⟩
    obtain ⟨L, rfl, hL, hLs⟩ := q2 ys hs hst
    have hLl : L.length = cars.length := by
      have := congrArg List.length hLs
      rw [List.length_map, (sortBy_perm _ _).length_eq] at this
      exact this
    have hLn : L.map (fun q => q.1.1.name) = (pl0 cars).ord := by
      rw [← ord_start ndn, ← hLs, List.map_map]
      rfl
    have S2 : Same H (upd H1 p (.lst (L.map fun q => V.ref q.2))) := k1.trans (newS hp _)
    have hp2 : upd H1 p (.lst (L.map fun q => V.ref q.2)) p = some (.lst (L.map fun q => V.ref q.2)) := upd_same
    have hL2 : ∀ q ∈ L, upd H1 p (.lst (L.map fun q => V.ref q.2)) q.2 = some (.tup [.int q.1.1.start, .int ((q.1.2 : Nat) : Int)]) := fun q hq => newS hp _ _ _ (hL q hq).1
    have hL3 : ∀ q ∈ L, cars[q.1.2]? = some q.1.1 := fun q hq => (hL q hq).2
    show tSeq _ _ _ _ (upd H1 p (.lst (L.map fun q => V.ref q.2)))
    generalize upd H1 p (.lst (L.map fun q => V.ref q.2)) = H2 at S2 hp2 hL2 ⊢
    clear hL q1 q2 u1 u2 u3 k1 hs hst hp
    -- the first order
    refine ⟨_, rfl, p, rfl, ⟨_, SqL.of hp2⟩, fun O hO => ?_⟩
    refine lc_it walk_list (fun i H3 => Same H2 H3 ∧ H3 O = some (.lst (((L.take i).map fun q => q.1.1.name).map V.str)))
      ⟨newS hO _, upd_same⟩ (fun i H3 _ ⟨k3, _⟩ => SqL.of (k3 _ _ hp2)) ?_ ?_
    · rintro i z H3 H4 hi ⟨k3, hO3⟩ ⟨e, hz⟩
      subst e
      obtain ⟨q, hq, rfl⟩ : ∃ q, L[i]? = some q ∧ z = V.ref q.2 := by
        rw [List.getElem?_map] at hz
        obtain ⟨t, z1, z2⟩ := Option.map_eq_some_iff.mp hz
        exact ⟨t, z1, z2.symm⟩
      have hmq := List.mem_of_getElem? hq
      obtain ⟨t, ht, htv⟩ := carAt _ _ (hL3 q hmq)
      refine ⟨q.2, _, rfl, SqT.of (k3 _ _ (hL2 q hmq)), rfl, _, _, rfl, _, _, rfl, rfl, ?_⟩
      refine ⟨rfl, yes_of ?_⟩
      refine ⟨_, rfl, _, rfl, a, _, _, .ref t, rfl, rfl, SqT.of (k3 _ _ (S2 _ _ a1)), atI_nat (map_at V.ref ht), t, _, _, _, rfl, rfl, SqT.of (k3 _ _ (S2 _ _ htv)), rfl, ?_⟩
      refine ⟨_, hO3, ?_, fun b o e => ?_, ?_⟩
      · rw [List.length_map, List.length_map, List.length_take]
        exact small1000 (by omega)
      · rw [upd_ne (ne_of_none e hO)]
        exact k3 _ _ e
      · rw [upd_same, tk1 hq, List.map_append, List.map_append]
        rfl
    rintro H3 ⟨k3, hO3⟩
    rw [List.length_map, List.take_length, hLn] at hO3
    have S3 := S2.trans k3
    clear hL2 hL3 hp2 k3 S2 hO hLn hLs hLl
    -- the paces
    refine ⟨_, rfl, a, rfl, ⟨_, SqT.of (S3 _ _ a1)⟩, fun D hD => ?_⟩
    refine lc_it walk_tup (fun i H4 => Same H3 H4 ∧ TupsAt H4 D ((cars.take i).map fun c => [V.str c.name, V.int c.pace]))
      ⟨newS hD _, tups_nil upd_same⟩ (fun i H4 _ ⟨k4, _⟩ => SqT.of (k4 _ _ (S3 _ _ a1))) ?_ ?_
    · rintro i z Hz H4 hi ⟨k4, T4⟩ ⟨e, hz⟩
      subst e
      rw [hal] at hi
      obtain ⟨c, hc⟩ : ∃ x, cars[i]? = some x := ⟨_, List.getElem?_eq_getElem hi⟩
      obtain ⟨t, ht, htv⟩ := carAt i c hc
      obtain rfl : z = V.ref t := by
        rw [List.getElem?_map, ht] at hz
        exact (Option.some.inj hz).symm
      have htv4 := k4 _ _ (S3 _ _ htv)
      obtain ⟨us, u1, u2, u3⟩ := id T4
      refine ⟨rfl, yes_of ?_⟩
      refine ⟨_, rfl, t, _, _, _, rfl, rfl, SqT.of htv4, rfl, _, rfl, t, _, _, _, rfl, rfl, SqT.of htv4, rfl, by show 2 ≤ sizeLine; decide, fun x hx => ?_⟩
      refine ⟨us.map V.ref, by rw [upd_ne (ne_of_none u1 hx)]; exact u1, ?_, fun p o e => ?_, ?_⟩
      · rw [List.length_map, u2, List.length_map, List.length_take]
        exact small1000 (by omega)
      · have e4 := k4 _ _ e
        rw [upd_ne (ne_of_none e hD), upd_ne (ne_of_none e4 hx)]
        exact e4
      · have := tups_push u1 u2 u3 hx [V.str c.name, V.int c.pace]
        rw [tk1 hc, List.map_append]
        exact this
    rintro H4 ⟨k4, us, u1, u2, u3⟩
    rw [hal, List.take_length] at u2 u3
    refine ⟨D, us, paceK cars, rfl, SqL.of u1, paired_of (by rw [u2, List.length_map]; unfold paceK; rw [List.length_map]) fun i t kv e1 e2 => ?_, fun PD hPD => ?_⟩
    · unfold paceK at e2
      rw [List.getElem?_map] at e2
      obtain ⟨c, hc, rfl⟩ := Option.map_eq_some_iff.mp e2
      exact SqT.of (u3 i t _ e1 (by rw [List.getElem?_map, hc]; rfl))
    rw [mergeK_new (by unfold paceK; rw [List.map_map]; exact names_keys ndn)]
    have S5 := S3.trans (k4.trans (newS hPD (.dK (paceK cars))))
    have hPD5 : upd H4 PD (.dK (paceK cars)) PD = some (.dK (paceK cars)) := upd_same
    have hO5 := newS hPD (.dK (paceK cars)) _ _ (k4 _ _ hO3)
    show tSeq _ _ _ _ (upd H4 PD (.dK (paceK cars)))
    generalize upd H4 PD (.dK (paceK cars)) = H5 at S5 hPD5 hO5 ⊢
    clear u1 u2 u3 k4 hPD hD S3 hO3
    -- the ticks
    refine ⟨_, rfl, a, rfl, ⟨_, SqT.of (S5 _ _ a1)⟩, fun D2 hD2 => ?_⟩
    refine lc_it walk_tup (fun i H6 => Same H5 H6 ∧ ∃ us ds : List Addr, H6 D2 = some (.lst (us.map V.ref)) ∧ us.length = i ∧ ds.length = i ∧ ds.Nodup ∧ (∀ d ∈ ds, H5 d = none ∧ d ≠ D2) ∧ ∀ (q : Nat) (u : Addr) (c : Car) (d : Addr), us[q]? = some u → cars[q]? = some c → ds[q]? = some d → H6 u = some (.tup [.str c.name, .ref d]) ∧ H6 d = some (.lst [.int c.start]))
      ⟨newS hD2 _, [], [], upd_same, rfl, rfl, List.nodup_nil, fun d z => (nomatch z), fun q u c d z => (by simp at z)⟩ (fun i H6 _ ⟨k6, _⟩ => SqT.of (k6 _ _ (S5 _ _ a1))) ?_ ?_
    · rintro i z Hz H6 hi ⟨k6, us, ds, u1, u2, d2, dn, dnew, dv⟩ ⟨e, hz⟩
      subst e
      rw [hal] at hi
      obtain ⟨c, hc⟩ : ∃ x, cars[i]? = some x := ⟨_, List.getElem?_eq_getElem hi⟩
      obtain ⟨t, ht, htv⟩ := carAt i c hc
      obtain rfl : z = V.ref t := by
        rw [List.getElem?_map, ht] at hz
        exact (Option.some.inj hz).symm
      have htv6 := k6 _ _ (S5 _ _ htv)
      refine ⟨rfl, yes_of ?_⟩
      refine ⟨_, rfl, t, _, _, _, rfl, rfl, SqT.of htv6, rfl, _, rfl, t, _, _, _, rfl, rfl, SqT.of htv6, rfl, by show 1 ≤ sizeLine; decide, fun d hd => ⟨by show 2 ≤ sizeLine; decide, fun x hx => ?_⟩⟩
      have s7 := newS hd (.lst [V.int c.start])
      have s8 := newS hx (.tup [V.str c.name, V.ref d])
      have s78 := s7.trans s8
      have nDd : D2 ≠ d := ne_of_none u1 hd
      have nDx : D2 ≠ x := ne_of_none (s7 _ _ u1) hx
      have ndd : ∀ q b c', us[q]? = some b → cars[q]? = some c' → q < i → ∃ d', ds[q]? = some d' := fun q b c' _ _ h => ⟨_, List.getElem?_eq_getElem (by omega)⟩
      refine ⟨us.map V.ref, s78 _ _ u1, by rw [List.length_map, u2]; exact small1000 (by omega), fun p o e => ?_, us ++ [x], ds ++ [d], by rw [upd_same, List.map_append]; rfl, by rw [List.length_append, u2]; rfl, by rw [List.length_append, d2]; rfl, ?_, fun d' hd' => ?_, fun q u c' d' e1 e2 e3 => ?_⟩
      · rw [upd_ne (ne_of_none e hD2)]
        exact s78 _ _ (k6 _ _ e)
      · rw [List.nodup_append]
        refine ⟨dn, (by simp), fun y hy z hz => ?_⟩
        rw [List.mem_singleton.mp hz]
        rintro rfl
        obtain ⟨q, hq⟩ := List.mem_iff_getElem?.mp hy
        have hql := (List.getElem?_eq_some_iff.mp hq).1
        obtain ⟨c', hc'⟩ : ∃ x, cars[q]? = some x := ⟨_, List.getElem?_eq_getElem (by omega)⟩
        obtain ⟨u, hu'⟩ : ∃ u, us[q]? = some u := ⟨_, List.getElem?_eq_getElem (by omega)⟩
        have := (dv q u c' y hu' hc' hq).2
        rw [hd] at this
        cases this
      · rcases List.mem_append.mp hd' with z | z
        · exact dnew d' z
        · rw [List.mem_singleton.mp z]
          exact ⟨lostS k6 hd, nDd.symm⟩
      · rcases snoc_get e1 with e1 | ⟨hq, rfl⟩
        · have hql := (List.getElem?_eq_some_iff.mp e1).1
          rw [List.getElem?_append_left (by omega)] at e3
          obtain ⟨z1, z2⟩ := dv q u c' d' e1 e2 e3
          exact ⟨by rw [upd_ne (ne_of z1 u1 (fun z => (nomatch z)))]; exact s78 _ _ z1, by rw [upd_ne (dnew d' (List.mem_of_getElem? e3)).2]; exact s78 _ _ z2⟩
        · rw [List.getElem?_append_right (by omega), hq, u2, d2, Nat.sub_self] at e3
          have : d = d' := by simpa using e3
          subst this
          rw [hq, u2, hc] at e2
          cases e2
          exact ⟨by rw [upd_ne nDx.symm, upd_same], by rw [upd_ne nDd.symm]; exact s8 _ _ upd_same⟩
    rintro H6 ⟨k6, us, ds, u1, u2, d2, dn, dnew, dv⟩
    rw [hal] at u2 d2
    refine ⟨D2, us, tkK cars ds, rfl, SqL.of u1, paired_of (by unfold tkK; rw [List.length_map, List.length_zip, u2, d2, Nat.min_self]) fun i t kv e1 e2 => ?_, fun TK hTK => ?_⟩
    · unfold tkK at e2
      rw [List.getElem?_map] at e2
      obtain ⟨q, hq, rfl⟩ := Option.map_eq_some_iff.mp e2
      obtain ⟨e3, e4⟩ := List.getElem?_zip_eq_some.mp hq
      exact SqT.of (dv i t q.1 q.2 e1 e3 e4).1
    rw [mergeK_new (by rw [tkK_keys d2]; exact names_keys ndn)]
    have s7 := newS hTK (.dK (tkK cars ds))
    have S7 := S5.trans (k6.trans s7)
    have hTK7 : upd H6 TK (.dK (tkK cars ds)) TK = some (.dK (tkK cars ds)) := upd_same
    have hPD7 := s7 _ _ (k6 _ _ hPD5)
    have hO7 := s7 _ _ (k6 _ _ hO5)
    have dv7 : ∀ (q : Nat) (c : Car) (d : Addr), cars[q]? = some c → ds[q]? = some d → upd H6 TK (.dK (tkK cars ds)) d = some (.lst ((tkl secs cars 0 c.name).map V.int)) := fun q c d e1 e2 => by
      obtain ⟨u, hu'⟩ : ∃ u, us[q]? = some u := ⟨_, List.getElem?_eq_getElem (by have := (List.getElem?_eq_some_iff.mp e1).1; omega)⟩
      have := s7 _ _ (dv q u c d hu' e1 e2).2
      rw [this]
      show _ = some (HO.lst [V.int (startOf cars c.name)])
      rw [startOf_car ndn (List.mem_of_getElem? e1)]
    have dn7 : ∀ d ∈ ds, H d = none := fun d hd => lostS S5 (dnew d hd).1
    generalize upd H6 TK (.dK (tkK cars ds)) = H7 at S7 hTK7 hPD7 hO7 dv7 ⊢
    clear u1 u2 dnew dv k6 hTK hD2 S5 hPD5 hO5 s7
    refine ⟨_, rfl, by show 1 ≤ sizeLine; decide, fun OD hOD => ⟨by show 2 ≤ sizeLine; decide, fun t5 ht5 => ?_⟩⟩
    have s8 := newS hOD (.lst [V.ref O])
    have s9 := newS ht5 (.tup [V.ref TK, V.ref OD])
    have s89 := s8.trans s9
    have D9 : DrC H (upd (upd H7 OD (.lst [V.ref O])) t5 (.tup [V.ref TK, V.ref OD])) secs cars 0 (tkl secs cars 0) TK PD OD ds [O] :=
      ⟨S7.trans s89, s89 _ _ hTK7, d2, fun q c d e1 e2 => s89 _ _ (dv7 q c d e1 e2), fun n z => (by obtain ⟨l, e⟩ := tkl_last secs cars 0 n; rw [e] at z; simp at z), dn, dn7, s89 _ _ hPD7, s9 _ _ upd_same, rfl, fun k d e => (by
        match k, e with
        | 0, e =>
          cases e
          exact s89 _ _ hO7
        | k + 1, e => simp at e), lostS S7 hOD⟩
    have hO9 := s89 _ _ hO7
    refine ⟨t5, _, rfl, SqT.of upd_same, rfl, _, _, rfl, _, _, rfl, rfl, ?_⟩
    generalize upd (upd H7 OD (.lst [V.ref O])) t5 (.tup [V.ref TK, V.ref OD]) = H9 at D9 hO9 ⊢
    clear s8 s9 s89 hOD ht5 hTK7 hPD7 hO7 dv7 dn7 S7 d2 dn us
    obtain ⟨rs, r1, r2, r3⟩ := id hS
    have hrl : (rs.map V.ref).length = secs.length := by rw [List.length_map, r2]
    refine ⟨_, rfl, sl, rfl, ⟨_, SqT.of (D9.same _ _ r1)⟩, for_it walk_tup (fun i σ H1 => ∃ (v7 v8 v9 v10 v11 v12 v13 v14 : Option V) (O : Addr) (os : List Addr), σ = [some (.ref sl), some (.ref a), some (.ref p), some (.ref O), some (.ref PD), some (.ref TK), some (.ref OD), v7, v8, v9, v10, v11, v12, v13, v14] ∧ DrC H H1 secs cars i (tkl secs cars i) TK PD OD ds os ∧ H1 O = some (.lst ((plcC secs cars i).ord.map V.str)))
      ⟨none, none, none, none, none, none, none, none, O, [O], rfl, D9, hO9⟩ (fun _ _ _ _ ⟨_, _, _, _, _, _, _, _, _, _, _, D, _⟩ => SqT.of (D.same _ _ r1)) ?_ ?_⟩
    rotate_left
    · rintro σ H1 ⟨v7, v8, v9, v10, v11, v12, v13, v14, O1, os, rfl, D1, hO1⟩
      rw [hrl] at D1 hO1
      refine ⟨_, rfl, _, rfl, by show 2 ≤ sizeLine; decide, fun t ht => ?_⟩
      have s2 := newS ht (.tup [V.ref TK, V.ref OD])
      have D2 := D1.step s2
      refine k _ t TK OD D2.same upd_same ⟨tkK cars ds, D2.tk, tkK_keys D2.dl, fun c hc => ?_⟩ ⟨os, D2.od, D2.ol, D2.ov⟩
      obtain ⟨q, hq⟩ := List.mem_iff_getElem?.mp hc
      obtain ⟨d, hd⟩ : ∃ d, ds[q]? = some d := ⟨_, List.getElem?_eq_getElem (by rw [D2.dl]; exact (List.getElem?_eq_some_iff.mp hq).1)⟩
      exact ⟨d, tkK_get ndn hq hd, D2.dv q c d hq hd⟩
    clear D9 hO9
    rintro i x σ Hz H1 hi ⟨v7, v8, v9, v10, v11, v12, v13, v14, O1, os, rfl, D1, hO1⟩ ⟨e, hx⟩
    subst e
    rw [hrl] at hi
    obtain ⟨t0, hu0, rfl⟩ : ∃ t, rs[i]? = some t ∧ x = V.ref t := by
      rw [List.getElem?_map] at hx
      obtain ⟨t, z1, z2⟩ := Option.map_eq_some_iff.mp hx
      exact ⟨t, z1, z2.symm⟩
    obtain ⟨s, hs⟩ : ∃ s, secs[i]? = some s := ⟨_, List.getElem?_eq_getElem hi⟩
    obtain ⟨b, len⟩ := s
    have htv0 := D1.same _ _ (r3 i t0 (b, len) hu0 hs)
    refine ⟨t0, _, rfl, SqT.of htv0, rfl, _, _, rfl, _, _, rfl, rfl, ?_⟩
    have ordL : (plcC secs cars i).ord.length = cars.length := plc_len
    have ordN : (plcC secs cars i).ord.Nodup := plc_nd ndn
    have carOf : ∀ n, n ∈ (plcC secs cars i).ord → ∃ (q : Nat) (c : Car) (d : Addr), cars[q]? = some c ∧ ds[q]? = some d ∧ c.name = n := fun n hn => by
      obtain ⟨c, hc, rfl⟩ := List.mem_map.mp (plc_mem.mp hn)
      obtain ⟨q, hq⟩ := List.mem_iff_getElem?.mp hc
      exact ⟨q, c, _, hq, List.getElem?_eq_getElem (by rw [D1.dl]; exact (List.getElem?_eq_some_iff.mp hq).1), rfl⟩
    -- the own ticks
    refine ⟨_, rfl, O1, rfl, ⟨_, SqL.of hO1⟩, fun D hD => ?_⟩
    refine lc_it walk_list (fun j H2 => Same H1 H2 ∧ TupsAt H2 D (((plcC secs cars i).ord.take j).map fun n => [V.str n, V.int (frC secs cars i len n)]))
      ⟨newS hD _, tups_nil upd_same⟩ (fun j H2 _ ⟨k2, _⟩ => SqL.of (k2 _ _ hO1)) ?_ ?_
    · rintro j z Hz H2 hj ⟨k2, T2⟩ ⟨e, hz⟩
      subst e
      rw [List.length_map] at hj
      obtain ⟨n, hn⟩ : ∃ n, (plcC secs cars i).ord[j]? = some n := ⟨_, List.getElem?_eq_getElem hj⟩
      obtain rfl : z = V.str n := by
        rw [List.getElem?_map, hn] at hz
        exact (Option.some.inj hz).symm
      obtain ⟨q, c, d, hq, hd, rfl⟩ := carOf n (List.mem_of_getElem? hn)
      have D2 := D1.step k2
      have hdv := D2.dv q c d hq hd
      obtain ⟨pre, epre⟩ := tkl_last secs cars i c.name
      rw [epre, List.map_append] at hdv
      obtain ⟨us, u1, u2, u3⟩ := id T2
      refine ⟨rfl, yes_of ?_⟩
      refine ⟨_, rfl, _, rfl, _, rfl, TK, .ref d, rfl, gSt D2.tk (tkK_get ndn hq hd), _, rfl, d, _, _, .int ((plcC secs cars i).tk c.name), rfl, rfl, SqL.of hdv, atI_last _ _, ?_⟩
      refine ⟨_, rfl, _, rfl, PD, .int (paceOf cars c.name), rfl, gSt D2.pd (paceK_get ndn (List.mem_map_of_mem (List.mem_of_getElem? hq))), _, rfl, _, _, rfl, rfl, ?_, _, _, rfl, rfl, by show 2 ≤ sizeLine; decide, fun x hx => ?_⟩
      · obtain ⟨_, _, _, p1, p2⟩ := CO.all c (List.mem_of_getElem? hq)
        rw [paceOf_car ndn (List.mem_of_getElem? hq)]
        exact .inl ⟨by omega, by omega⟩
      refine ⟨us.map V.ref, by rw [upd_ne (ne_of_none u1 hx)]; exact u1, ?_, fun p o e => ?_, ?_⟩
      · rw [List.length_map, u2, List.length_map, List.length_take]
        exact small1000 (by omega)
      · have e4 := k2 _ _ e
        rw [upd_ne (ne_of_none e hD), upd_ne (ne_of_none e4 hx)]
        exact e4
      · have := tups_push u1 u2 u3 hx [V.str c.name, V.int (frC secs cars i len c.name)]
        rw [tk1 hn, List.map_append]
        exact this
    rintro H2 ⟨k2, us, u1, u2, u3⟩
    rw [List.length_map, List.length_map, List.take_length] at u2
    rw [List.length_map, List.take_length] at u3
    refine ⟨D, us, ownK (plcC secs cars i).ord (frC secs cars i len), rfl, SqL.of u1, paired_of (by rw [u2]; unfold ownK; rw [List.length_map]) fun i t kv e1 e2 => ?_, fun OW hOW => ?_⟩
    · unfold ownK at e2
      rw [List.getElem?_map] at e2
      obtain ⟨n, hn, rfl⟩ := Option.map_eq_some_iff.mp e2
      exact SqT.of (u3 i t _ e1 (by rw [List.getElem?_map, hn]; rfl))
    rw [mergeK_new (ownK_keys ordN)]
    have s3 := newS hOW (.dK (ownK (plcC secs cars i).ord (frC secs cars i len)))
    have D3 := D1.step (k2.trans s3)
    have hO3 := s3 _ _ (k2 _ _ hO1)
    have hOW3 : upd H2 OW (.dK (ownK (plcC secs cars i).ord (frC secs cars i len))) OW = some (.dK (ownK (plcC secs cars i).ord (frC secs cars i len))) := upd_same
    show tSeq _ _ _ _ (upd H2 OW (.dK (ownK (plcC secs cars i).ord (frC secs cars i len))))
    generalize upd H2 OW (.dK (ownK (plcC secs cars i).ord (frC secs cars i len))) = H3 at D3 hO3 hOW3 ⊢
    clear D1 hO1 u1 u2 u3 k2 s3 hOW hD htv0
    rw [← gA_nil secs cars i] at D3
    refine ⟨_, rfl, rfl, _, rfl, ?_⟩
    rw [show decide (V.str (kindS b) = V.str "narrow") = !b by cases b <;> decide +kernel]
    -- the rest of the section, once the ticks and the new order stand
    cases b with
    | false =>
      refine iteT ?_
      refine ⟨_, rfl, O1, _, rfl, .inl (SqL.of hO3), ((((plcC secs cars i).ord.map V.str).length : Nat) : Int), rfl, by rw [List.length_map]; omega, by rw [List.length_map]; omega, ?_⟩
      rw [Int.toNat_natCast]
      refine for_it walk_range (fun j σ H4 => ∃ (v9 v11 v12 v13 v14 : Option V), σ = [some (.ref sl), some (.ref a), some (.ref p), some (.ref O1), some (.ref PD), some (.ref TK), some (.ref OD), some (.str (kindS false)), some (.int ((len : Nat) : Int)), v9, some (.ref OW), v11, v12, v13, v14] ∧ DrC H H4 secs cars i (gA secs cars i ((plcC secs cars i).ord.take j)) TK PD OD ds os ∧ H4 O1 = some (.lst ((plcC secs cars i).ord.map V.str)) ∧ H4 OW = some (.dK (ownK (plcC secs cars i).ord (frC secs cars i len))))
        ⟨_, _, _, _, _, rfl, D3, hO3, hOW3⟩ (fun _ _ _ _ _ => True.intro) ?_ ?_
      · rintro j z σ Hz H4 hj ⟨v9, v11, v12, v13, v14, rfl, D4, hO4, hOW4⟩ ⟨e, hz⟩
        obtain rfl : z = V.int ((j : Nat) : Int) := hz.trans (congrArg V.int (by omega))
        subst e
        rw [List.length_map] at hj
        obtain ⟨n, hn⟩ : ∃ n, (plcC secs cars i).ord[j]? = some n := ⟨_, List.getElem?_eq_getElem hj⟩
        obtain ⟨q, c, d, hq, hd, rfl⟩ := carOf n (List.mem_of_getElem? hn)
        refine gname_to ?_
        refine ⟨_, rfl, _, rfl, _, rfl, O1, _, _, .str c.name, rfl, rfl, SqL.of hO4, atI_nat (map_at V.str hn), TK, .ref d, rfl, gSt D4.tk (tkK_get ndn hq hd), .inl ⟨rfl, _, SqL.of (D4.dv q c d hq hd)⟩, ?_⟩
        refine ⟨_, rfl, _, rfl, _, _, rfl, rfl, _, rfl, O1, _, rfl, SqL.of hO4, fun Z hZ => ?_⟩
        have ecut : cutV ((plcC secs cars i).ord.map V.str) none (some ((j : Int) + 1)) = ((plcC secs cars i).ord.take (j + 1)).map V.str := by
          rw [show ((j : Int) + 1) = ((j + 1 : Nat) : Int) by omega, cut_to (by rw [List.length_map]; omega), List.map_take]
        have sZ := newS hZ (.lst (cutV ((plcC secs cars i).ord.map V.str) none (some ((j : Int) + 1))))
        have hZ5 : upd H4 Z (.lst (cutV ((plcC secs cars i).ord.map V.str) none (some ((j : Int) + 1)))) Z = some (.lst (((plcC secs cars i).ord.take (j + 1)).map V.str)) := by rw [upd_same, ecut]
        have D5 := D4.step sZ
        have hO5 := sZ _ _ hO4
        have hOW5 := sZ _ _ hOW4
        generalize upd H4 Z (.lst (cutV ((plcC secs cars i).ord.map V.str) none (some ((j : Int) + 1)))) = H5 at D5 hO5 hOW5 hZ5 ⊢
        refine ⟨Z, rfl, ⟨_, SqL.of hZ5⟩, fun D hD => ?_⟩
        refine lc_it walk_list (fun y H6 => Same H5 H6 ∧ H6 D = some (.lst ((((plcC secs cars i).ord.take (j + 1)).take y).map (frC secs cars i len) |>.map V.int)))
          ⟨newS hD _, upd_same⟩ (fun y H6 _ ⟨k6, _⟩ => SqL.of (k6 _ _ hZ5)) ?_ ?_
        · rintro y z Hz H6 hy ⟨k6, hD6⟩ ⟨e, hz⟩
          subst e
          rw [List.length_map] at hy
          obtain ⟨m, hm⟩ : ∃ n, ((plcC secs cars i).ord.take (j + 1))[y]? = some n := ⟨_, List.getElem?_eq_getElem hy⟩
          obtain rfl : z = V.str m := by
            rw [List.getElem?_map, hm] at hz
            exact (Option.some.inj hz).symm
          refine ⟨rfl, yes_of ?_⟩
          refine ⟨_, rfl, _, rfl, OW, .int (frC secs cars i len m), rfl, gSt (k6 _ _ hOW5) (ownK_get (List.mem_of_mem_take (List.mem_of_getElem? hm))), ?_⟩
          refine ⟨_, hD6, ?_, fun p o e => by rw [upd_ne (ne_of_none e hD)]; exact k6 _ _ e, ?_⟩
          · rw [List.length_map, List.length_map, List.length_take, List.length_take]
            exact small1000 (by omega)
          · rw [upd_same, tk1 hm, List.map_append, List.map_append]
            rfl
        rintro H6 ⟨k6, hD6⟩
        rw [List.length_map, List.take_length] at hD6
        have hlt : ((plcC secs cars i).ord.take (j + 1)).length = j + 1 := by rw [List.length_take]; omega
        refine ⟨D, _, rfl, SqL.of hD6, by rw [List.length_map, hlt]; omega, fun m hm hmx => ?_⟩
        have em := narrow_max ndn hs hn hm hmx
        rw [em]
        have D6 := D5.step k6
        have hdv := D6.dv q c d hq hd
        obtain ⟨kl, ks, kr⟩ := D6.tickKeep hq hd (.lst ((gA secs cars i ((plcC secs cars i).ord.take j) c.name).map V.int ++ [.int ((plcC secs cars (i + 1)).tk c.name)]))
        refine ⟨d, _, _, rfl, rfl, hdv, by rw [List.length_map]; exact small1000 (by have := gA_len secs cars i ((plcC secs cars i).ord.take j) c.name; omega), ?_⟩
        refine ⟨_, _, _, _, _, rfl, (D6.tick ndn hq hd _).congr (fun c' hc' => ?_) (gA_ne _ _ _ _), ks _ _ (k6 _ _ hO5), kl _ _ (k6 _ _ hOW5) (fun _ z => (nomatch z))⟩
        rw [tk1 hn]
        refine gA_step fun z => ?_
        obtain ⟨y, hy⟩ := List.mem_iff_getElem?.mp z
        have hyl : y < j := by
          have := (List.getElem?_eq_some_iff.mp hy).1
          rw [List.length_take] at this
          omega
        rw [List.getElem?_take_of_lt hyl] at hy
        have := nd_ix ordN hy hn
        omega
      rintro σ H4 ⟨v9, v11, v12, v13, v14, rfl, D4, hO4, hOW4⟩
      rw [List.length_map, List.take_length] at D4
      have D4 := D4.congr (g' := tkl secs cars (i + 1)) (fun c hc => gA_all (plc_mem.mpr (List.mem_map_of_mem hc))) (fun n z => by obtain ⟨l, e⟩ := tkl_last secs cars (i + 1) n; rw [e] at z; simp at z)
      rw [← narrow_ord hs] at hO4
      have os1 := D4.ol
      refine ⟨_, rfl, .inl ⟨rfl, _, SqL.of D4.od⟩, _, rfl, OD, _, .ref O1, rfl, rfl, D4.od, by rw [List.length_map, os1]; exact small1000 (by omega), ?_⟩
      exact ⟨_, _, _, _, _, _, _, _, O1, os ++ [O1], rfl, D4.put hO4, by rw [upd_ne (ne_of hO4 D4.od (refs_strs D4.one))]; exact hO4⟩
    | true =>
      refine iteF ?_
      refine ⟨_, rfl, O1, rfl, ⟨_, SqL.of hO3⟩, for_it walk_list (fun j σ H4 => ∃ (v9 v11 v12 v13 v14 : Option V), σ = [some (.ref sl), some (.ref a), some (.ref p), some (.ref O1), some (.ref PD), some (.ref TK), some (.ref OD), some (.str (kindS true)), some (.int ((len : Nat) : Int)), v9, some (.ref OW), v11, v12, v13, v14] ∧ DrC H H4 secs cars i (gA secs cars i ((plcC secs cars i).ord.take j)) TK PD OD ds os ∧ H4 O1 = some (.lst ((plcC secs cars i).ord.map V.str)) ∧ H4 OW = some (.dK (ownK (plcC secs cars i).ord (frC secs cars i len))))
        ⟨_, _, _, _, _, rfl, D3, hO3, hOW3⟩ (fun _ _ _ _ ⟨_, _, _, _, _, _, _, e, _⟩ => SqL.of e) ?_ ?_⟩
      · rintro j z σ Hz H4 hj ⟨v9, v11, v12, v13, v14, rfl, D4, hO4, hOW4⟩ ⟨e, hz⟩
        subst e
        rw [List.length_map] at hj
        obtain ⟨n, hn⟩ : ∃ n, (plcC secs cars i).ord[j]? = some n := ⟨_, List.getElem?_eq_getElem hj⟩
        obtain rfl : z = V.str n := by
          rw [List.getElem?_map, hn] at hz
          exact (Option.some.inj hz).symm
        obtain ⟨q, c, d, hq, hd, rfl⟩ := carOf n (List.mem_of_getElem? hn)
        have hdv := D4.dv q c d hq hd
        refine gname_to ?_
        refine ⟨_, rfl, _, rfl, TK, .ref d, rfl, gSt D4.tk (tkK_get ndn hq hd), .inl ⟨rfl, _, SqL.of hdv⟩, ?_⟩
        refine ⟨_, rfl, _, rfl, OW, .int (frC secs cars i len c.name), rfl, gSt hOW4 (ownK_get (List.mem_of_getElem? hn)), ?_⟩
        obtain ⟨kl, ks, kr⟩ := D4.tickKeep hq hd (.lst ((gA secs cars i ((plcC secs cars i).ord.take j) c.name).map V.int ++ [.int (frC secs cars i len c.name)]))
        refine ⟨d, _, _, rfl, rfl, hdv, by rw [List.length_map]; exact small1000 (by have := gA_len secs cars i ((plcC secs cars i).ord.take j) c.name; omega), ?_⟩
        refine ⟨_, _, _, _, _, rfl, (D4.tick ndn hq hd _).congr (fun c' hc' => ?_) (gA_ne _ _ _ _), ks _ _ hO4, kl _ _ hOW4 (fun _ z => (nomatch z))⟩
        rw [tk1 hn, ← wide_tk hs]
        refine gA_step fun z => ?_
        obtain ⟨y, hy⟩ := List.mem_iff_getElem?.mp z
        have hyl : y < j := by
          have := (List.getElem?_eq_some_iff.mp hy).1
          rw [List.length_take] at this
          omega
        rw [List.getElem?_take_of_lt hyl] at hy
        have := nd_ix ordN hy hn
        omega
      rintro σ H4 ⟨v9, v11, v12, v13, v14, rfl, D4, hO4, hOW4⟩
      rw [List.length_map, List.take_length] at D4
      have D4 := D4.congr (g' := tkl secs cars (i + 1)) (fun c hc => gA_all (plc_mem.mpr (List.mem_map_of_mem hc))) (fun n z => by obtain ⟨l, e⟩ := tkl_last secs cars (i + 1) n; rw [e] at z; simp at z)
      clear D3 hO3 hOW3
      -- the new order
      refine ⟨_, rfl, O1, _, rfl, .inl (SqL.of hO4), ((((plcC secs cars i).ord.map V.str).length : Nat) : Int), rfl, by rw [List.length_map]; omega, by rw [List.length_map]; omega, fun W2 hW2 => ?_⟩
      rw [Int.toNat_natCast, List.length_map]
      refine lc_it walk_range (fun j H5 => Same H4 H5 ∧ TupsAt H5 W2 (((plcC secs cars i).ord.take j).zipIdx.map fun q => [V.int (frC secs cars i len q.1), V.int ((q.2 : Nat) : Int)]))
        ⟨newS hW2 _, tups_nil upd_same⟩ (fun _ _ _ _ => True.intro) ?_ ?_
      · rintro j z Hz H5 hj ⟨k5, T5⟩ ⟨e, ez⟩
        obtain rfl : z = V.int ((j : Nat) : Int) := ez.trans (congrArg V.int (by omega))
        clear ez
        subst e
        obtain ⟨n, hn⟩ : ∃ n, (plcC secs cars i).ord[j]? = some n := ⟨_, List.getElem?_eq_getElem hj⟩
        obtain ⟨us, u1, u2, u3⟩ := id T5
        refine ⟨rfl, yes_of ?_⟩
        refine ⟨_, rfl, _, rfl, _, rfl, O1, _, _, .str n, rfl, rfl, SqL.of (k5 _ _ hO4), atI_nat (map_at V.str hn), OW, .int (frC secs cars i len n), rfl, gSt (k5 _ _ hOW4) (ownK_get (List.mem_of_getElem? hn)), _, rfl, by show 2 ≤ sizeLine; decide, fun x hx => ?_⟩
        refine ⟨us.map V.ref, by rw [upd_ne (ne_of_none u1 hx)]; exact u1, ?_, fun p o e => ?_, ?_⟩
        · rw [List.length_map, u2, List.length_map, List.length_zipIdx, List.length_take]
          exact small1000 (by omega)
        · have e4 := k5 _ _ e
          rw [upd_ne (ne_of_none e hW2), upd_ne (ne_of_none e4 hx)]
          exact e4
        · have := tups_push u1 u2 u3 hx [V.int (frC secs cars i len n), V.int ((j : Nat) : Int)]
          have e2 : ((plcC secs cars i).ord.take (j + 1)).zipIdx.map (fun q => [V.int (frC secs cars i len q.1), V.int ((q.2 : Nat) : Int)]) = ((plcC secs cars i).ord.take j).zipIdx.map (fun q => [V.int (frC secs cars i len q.1), V.int ((q.2 : Nat) : Int)]) ++ [[V.int (frC secs cars i len n), V.int ((j : Nat) : Int)]] := by
            rw [List.take_succ, hn, List.zipIdx_append, List.map_append, List.length_take, Nat.min_eq_left (Nat.le_of_lt hj)]
            simp
          rw [e2]
          exact this
      rintro H5 ⟨k5, T5⟩
      rw [List.take_length] at T5
      obtain ⟨us, u1, u2, u3⟩ := T5
      rw [List.length_map, List.length_zipIdx] at u2
      obtain ⟨q1, q2⟩ := sorted_idx (es := (plcC secs cars i).ord) (key := frC secs cars i len) (us := us) (H := H5) u2 fun i' t c e1 e2 => u3 i' t _ e1 (by rw [List.getElem?_map, List.getElem?_zipIdx, e2]; simp)
      refine ⟨W2, us.map V.ref, pairK H5, rfl, SqL.of u1, q1, fun ys p2 hys hst hp2 => ?_⟩
      obtain ⟨L, rfl, hL, hLs⟩ := q2 ys hys hst
      have hLn : L.map (fun q => q.1.1) = (plcC secs cars (i + 1)).ord := by rw [hLs, wide_ord hs]
      have hLl : L.length = cars.length := by
        have := congrArg List.length hLn
        rw [List.length_map, plc_len] at this
        exact this
      have S6 := k5.trans (newS hp2 (.lst (L.map fun q => V.ref q.2)))
      have hp6 : upd H5 p2 (.lst (L.map fun q => V.ref q.2)) p2 = some (.lst (L.map fun q => V.ref q.2)) := upd_same
      have hL6 : ∀ q ∈ L, upd H5 p2 (.lst (L.map fun q => V.ref q.2)) q.2 = some (.tup [.int (frC secs cars i len q.1.1), .int ((q.1.2 : Nat) : Int)]) := fun q hq => newS hp2 _ _ _ (hL q hq).1
      have hL3 : ∀ q ∈ L, (plcC secs cars i).ord[q.1.2]? = some q.1.1 := fun q hq => (hL q hq).2
      have D6 := D4.step S6
      have hO6 := S6 _ _ hO4
      generalize upd H5 p2 (.lst (L.map fun q => V.ref q.2)) = H6 at S6 hp6 hL6 D6 hO6 ⊢
      clear hL q1 q2 u1 u2 u3 k5 hys hst hp2 D4 hO4 hOW4 S6
      refine ⟨p2, rfl, ⟨_, SqL.of hp6⟩, fun O2 hO2 => ?_⟩
      refine lc_it walk_list (fun j H7 => Same H6 H7 ∧ H7 O2 = some (.lst (((L.take j).map fun q => q.1.1).map V.str)))
        ⟨newS hO2 _, upd_same⟩ (fun j H7 _ ⟨k7, _⟩ => SqL.of (k7 _ _ hp6)) ?_ ?_
      · rintro j z Hz H7 hj ⟨k7, hO7⟩ ⟨e, hz⟩
        subst e
        obtain ⟨q, hq, rfl⟩ : ∃ q, L[j]? = some q ∧ z = V.ref q.2 := by
          rw [List.getElem?_map] at hz
          obtain ⟨t, z1, z2⟩ := Option.map_eq_some_iff.mp hz
          exact ⟨t, z1, z2.symm⟩
        have hmq := List.mem_of_getElem? hq
        refine ⟨q.2, _, rfl, SqT.of (k7 _ _ (hL6 q hmq)), rfl, _, _, rfl, _, _, rfl, rfl, ?_⟩
        refine ⟨rfl, yes_of ?_⟩
        refine ⟨_, rfl, _, rfl, O1, _, _, .str q.1.1, rfl, rfl, SqL.of (k7 _ _ hO6), atI_nat (map_at V.str (hL3 q hmq)), ?_⟩
        refine ⟨_, hO7, ?_, fun b o e => ?_, ?_⟩
        · rw [List.length_map, List.length_map, List.length_take]
          exact small1000 (by omega)
        · rw [upd_ne (ne_of_none e hO2)]
          exact k7 _ _ e
        · rw [upd_same, tk1 hq, List.map_append, List.map_append]
          rfl
      rintro H7 ⟨k7, hO7⟩
      rw [List.length_map, List.take_length, hLn] at hO7
      have D7 := D6.step k7
      have os1 := D7.ol
      refine ⟨_, rfl, .inl ⟨rfl, _, SqL.of D7.od⟩, _, rfl, OD, _, .ref O2, rfl, rfl, D7.od, by rw [List.length_map, os1]; exact small1000 (by omega), ?_⟩
      exact ⟨_, _, _, _, _, _, _, _, O2, os ++ [O2], rfl, D7.put hO7, by rw [upd_ne (ne_of hO7 D7.od (refs_strs D7.one))]; exact hO7⟩
end
end Sl

set_option Elab.async false
set_option linter.all false
set_option maxRecDepth 100000
set_option maxHeartbeats 2000000
namespace Sl
open PySem PySem.Spec L2 OwnR LamX
section
variable {P : Program} {w : World} {K : PySem.W.Frag} {mg : Str → Option Value} {base : Heap}
/-! ### is_number of anything -/
/-- a number within limits -/
def numB : V → Int → Int → Bool
  | .int i, lo, hi => decide (lo ≤ i) && decide (i ≤ hi)
  | _, _, _ => false
/-- what may be asked: a number, None, a bool, a text -/
def Plain (v : V) : Prop := (∃ i, v = .int i) ∨ v = .non ∨ (∃ b, v = .bl b) ∨ ∃ z, v = .str z
def spIsNumV : Sp := fun vs H Q _ => ∃ (v : V) (lo hi : Int), vs = [v, .int lo, .int hi] ∧ Plain v ∧ Q (.bl (numB v lo hi)) H
theorem ok_isNumV {f : Addr} {fd : FuncData} (F : Fun K "is_number" "is_number" sIsNumber f fd) (M : Mg mg) : FnOk P w K mg base CX0 1 f fd ["value", "least", "most"] spIsNumV := by
  refine F.ok scIsNumber (fun vs H Q E h => ?_) (fun cdv A outer s H vs Q E hr h => ?_)
  · obtain ⟨i, lo, hi, rfl, _⟩ := h
    rfl
  · obtain ⟨v, lo, hi, rfl, hv, k⟩ := h
    refine ⟨_, pss_one (ps_ret (pe_and (pe_callB call_isi (by rfl) M.isinstance boot_isinstance (pa_cons (pv 0) (pa_cons (pe_bltn (v := .ty "int") (by rfl) M.int boot_tInt rfl) pa_nil)))
      (pe_and (pe_not (pe_callB call_isi (by rfl) M.isinstance boot_isinstance (pa_cons (pv 0) (pa_cons (pe_bltn (v := .ty "bool") (by rfl) M.bool boot_tBool rfl) pa_nil))))
        (pe_one (pe_chain op_le op_le (pv 1) (pv 0) (pv 2)))))), ?_⟩
    rcases hv with ⟨i, rfl⟩ | rfl | ⟨b, rfl⟩ | ⟨z, rfl⟩
    · refine ⟨_, rfl, _, _, _, _, true, rfl, .ty _, .base (.int i), kit_ty (by decide +kernel), true, rfl, iteT ?_⟩
      refine ⟨_, rfl, _, _, _, _, false, rfl, .ty _, .base (.int i), kit_ty (by decide +kernel), false, rfl, true, rfl, iteT ?_⟩
      refine ⟨_, rfl, _, rfl, lo, i, rfl, rfl, _, rfl, ?_⟩
      have k : Q (.bl (decide (lo ≤ i) && decide (i ≤ hi))) H := k
      by_cases h1 : lo ≤ i
      · rw [decide_eq_true h1] at k ⊢
        exact iteT ⟨_, rfl, i, hi, rfl, rfl, by simpa using k⟩
      · rw [decide_eq_false h1] at k ⊢
        exact iteF (by simpa using k)
    · exact ⟨_, rfl, _, _, _, _, false, rfl, .ty _, .base .non, kit_ty (by decide +kernel), false, rfl, iteF k⟩
    · refine ⟨_, rfl, _, _, _, _, true, rfl, .ty _, .base (.bl b), kit_ty (by decide +kernel), true, rfl, iteT ?_⟩
      exact ⟨_, rfl, _, _, _, _, true, rfl, .ty _, .base (.bl b), kit_ty (by decide +kernel), true, rfl, false, rfl, iteF k⟩
    · exact ⟨_, rfl, _, _, _, _, false, rfl, .ty _, .base (.str z), kit_ty (by decide +kernel), false, rfl, iteF k⟩
/-- an own class of errors that is made with a text -/
structure ErrT (K : PySem.W.Frag) (mg : Str → Option Value) (x : Str) (C : Addr) : Prop where
  q : PySem.W.excIn K C [.type "ValueError", .type "Exception", .type "BaseException", .type "object"] "ValueError.__new__" = true
  g : mg x = some (.ref C)
  k : PySem.W.keepIn K (.ref C) = true
  b : PySem.W.subIn K (.ref C) (.type "BaseException") = some true
  t : PySem.W.typeIn K (.ref C) = some (.type "type")
theorem pmk_errT {X : Cx} {C : Addr} {x m : Str} {j : Nat} {p p2 pos : Pos} (e : ErrT X.K X.mg x C) (hg : Gl X x) (hdb : (x == ("__debug__" : Str)) = false := by decide) : PMk X (.Call (.Name x p) [.Constant (.str m) j p2] [] pos) (fun _ H Q => Q (.ref C) none H) :=
  pmk_own PySem.F.excBase_ValueError e.q e.g e.k (raises_own e.b e.t) hg hdb
end
end Sl

set_option Elab.async false
set_option linter.all false
set_option maxRecDepth 100000
set_option maxHeartbeats 2000000
/-! A live road: its operations, apart from the heap; what raises. -/
namespace Sl
open PySem PySem.Spec L2 OwnR LamX
theorem map_atZ {α β : Type} {xs : List α} {k : Nat} {v : α} (f : α → β) (h : xs[k]? = some v) : (xs.map f)[k]? = some (f v) := by rw [List.getElem?_map, h]; rfl
/-! ### operations -/
inductive Op
  | join (n : Str) (s p : Nat)
  | rem (n : Str)
  | kind (i : Nat) (b : Bool)
def Op.vs : Op → List V
  | .join n s p => [.str "join", .str n, .int ((s : Nat) : Int), .int ((p : Nat) : Int)]
  | .rem n => [.str "remove", .str n]
  | .kind i b => [.str "set_kind", .int ((i : Nat) : Int), .str (kindS b)]
inductive Er
  | name
  | many
  | car (n : Str)
inductive Rs
  | tick (i : Int)
  | chg (ns : List Str) (g : Str → Int × Int)
abbrev St2 := List Sec × List Car
def arrL (S : St2) (n : Str) : Int := (plcC S.1 S.2 S.1.length).tk n
def lessC (cars : List Car) (n : Str) : List Car := cars.filter fun c => decide (c.name ≠ n)
def setK (secs : List Sec) (i : Nat) (b : Bool) : List Sec := secs.set i (b, (secs.getD i (b, 1)).2)
/-- the cars that are there and arrive at another tick -/
def chgN (S S' : St2) : List Str := (names S'.2).filter fun n => decide (arrL S n ≠ arrL S' n)
def chgX (S S' : St2) : Rs := .chg (chgN S S') fun n => (arrL S n, arrL S' n)
def newC (n : Str) (s p : Nat) : Car := ⟨n, ((s : Nat) : Int), ((p : Nat) : Int)⟩
def stepO (S : St2) : Op → Er ⊕ (St2 × Rs)
  | .join n s p => if n ∈ names S.2 then .inl .name else if S.2.length = 10 then .inl .many else .inr ((S.1, S.2 ++ [newC n s p]), .tick (arrL (S.1, S.2 ++ [newC n s p]) n))
  | .rem n => if n ∈ names S.2 then .inr ((S.1, lessC S.2 n), chgX S (S.1, lessC S.2 n)) else .inl (.car n)
  | .kind i b => .inr ((setK S.1 i b, S.2), chgX S (setK S.1 i b, S.2))
/-- what an operation is asked with -/
def OpOk (S : St2) : Op → Prop
  | .join n s p => NameOk n ∧ (∀ c, S.2.getLast? = some c → c.start ≤ ((s : Nat) : Int)) ∧ s ≤ 1000000 ∧ 1 ≤ p ∧ p ≤ 60
  | .rem _ => True
  | .kind i _ => i < S.1.length
structure StOk (S : St2) : Prop where
  so : SecsOk S.1
  co : CarsOk S.2
theorem less_ok {cars : List Car} (CO : CarsOk cars) (n : Str) : CarsOk (lessC cars n) where
  all := fun c hc => CO.all c (List.mem_filter.mp hc).1
  nd := CO.nd.sublist (List.Sublist.map _ List.filter_sublist)
  few := Nat.le_trans (List.length_filter_le _ _) CO.few
theorem setK_len (secs : List Sec) (i : Nat) (b : Bool) : (setK secs i b).length = secs.length := List.length_set
theorem setK_ok {secs : List Sec} (SO : SecsOk secs) {i : Nat} (hi : i < secs.length) (b : Bool) : SecsOk (setK secs i b) where
  ne := fun z => by
    have := setK_len secs i b
    rw [z] at this
    exact absurd this (by intro e; rw [← e] at hi; exact Nat.not_lt_zero _ hi)
  few := by rw [setK_len]; exact SO.few
  len := fun s hs => by
    unfold setK at hs
    rcases List.mem_or_eq_of_mem_set hs with h | h
    · exact SO.len s h
    · rw [h]
      have e : secs.getD i (b, 1) = secs[i] := by rw [List.getD_eq_getElem?_getD, List.getElem?_eq_getElem hi]; rfl
      show 1 ≤ (secs.getD i (b, 1)).2 ∧ (secs.getD i (b, 1)).2 ≤ 99
      rw [e]
      exact SO.len _ (List.getElem_mem hi)
theorem newC_ok {n : Str} {s p : Nat} (hn : NameOk n) (hs : s ≤ 1000000) (p1 : 1 ≤ p) (p2 : p ≤ 60) : (newC n s p).Ok := ⟨hn, by show (0 : Int) ≤ (s : Int); omega, by show (s : Int) ≤ 1000000; omega, by show (1 : Int) ≤ (p : Int); omega, by show (p : Int) ≤ 60; omega⟩
theorem names_app (cars : List Car) (c : Car) : names (cars ++ [c]) = names cars ++ [c.name] := by unfold names; rw [List.map_append]; rfl
theorem join_ok {cars : List Car} (CO : CarsOk cars) {c : Car} (hc : c.Ok) (hn : c.name ∉ names cars) (h : cars.length ≠ 10) : CarsOk (cars ++ [c]) where
  all := fun d hd => by
    rcases List.mem_append.mp hd with h | h
    · exact CO.all d h
    · rw [List.mem_singleton.mp h]; exact hc
  nd := by
    have e := names_app cars c
    unfold names at e
    rw [e]
    refine List.nodup_append.mpr ⟨CO.nd, by simp, fun a ha b hb => ?_⟩
    rw [List.mem_singleton.mp hb]
    intro z
    exact hn (z ▸ ha)
  few := by
    have := CO.few
    rw [List.length_append]
    show cars.length + 1 ≤ 10
    omega
theorem step_join (S : St2) (n : Str) (s p : Nat) : stepO S (.join n s p) = if n ∈ names S.2 then .inl .name else if S.2.length = 10 then .inl .many else .inr ((S.1, S.2 ++ [newC n s p]), .tick (arrL (S.1, S.2 ++ [newC n s p]) n)) := rfl
theorem step_rem (S : St2) (n : Str) : stepO S (.rem n) = if n ∈ names S.2 then .inr ((S.1, lessC S.2 n), chgX S (S.1, lessC S.2 n)) else .inl (.car n) := rfl
theorem step_ok {S S' : St2} {o : Op} {r : Rs} (h : StOk S) (ho : OpOk S o) (e : stepO S o = .inr (S', r)) : StOk S' := by
  cases o with
  | join n s p =>
    obtain ⟨h1, _, h3, h4, h5⟩ := ho
    rw [step_join] at e
    by_cases hn : n ∈ names S.2
    · rw [if_pos hn] at e
      cases e
    · rw [if_neg hn] at e
      by_cases hl : S.2.length = 10
      · rw [if_pos hl] at e
        cases e
      · rw [if_neg hl] at e
        have e := Sum.inr.inj e
        rw [← (Prod.mk.inj e).1]
        exact ⟨h.so, join_ok h.co (newC_ok h1 h3 h4 h5) hn hl⟩
  | rem n =>
    rw [step_rem] at e
    by_cases hn : n ∈ names S.2
    · rw [if_pos hn] at e
      have e := Sum.inr.inj e
      rw [← (Prod.mk.inj e).1]
      exact ⟨h.so, less_ok h.co n⟩
    · rw [if_neg hn] at e
      cases e
  | kind i b =>
    have e := Sum.inr.inj e
    rw [← (Prod.mk.inj e).1]
    exact ⟨setK_ok h.so ho b, h.co⟩
section
variable {P : Program} {w : World} {K : PySem.W.Frag} {mg : Str → Option Value} {base : Heap}
def nKnown : List Str := ["cars", "name", "known", "start", "pace"]
theorem scKnown : FnScope nKnown ["cars", "name"] (defScope sCheckKnown) := ⟨rfl, rfl, rfl, by decide +kernel, rfl, by decide +kernel, by decide +kernel⟩
/-! ### UnknownCar(name) -/
def spUInit (C : Addr) : Sp := fun vs H Q _ => ∃ (a : Addr) (v : V), vs = [.ref a, v] ∧ H a = some (exo a C none) ∧ ∀ dx, H dx = none → dx ≠ a → Q .non (upd (upd H dx (exd dx [("name", v)])) a (exo a C (some dx)))
def nUInit : List Str := ["self", "name"]
theorem scUInit : FnScope nUInit ["self", "name"] (defScope sUnknownCarInit) := ⟨rfl, rfl, rfl, by decide +kernel, rfl, by decide +kernel, by decide +kernel⟩
theorem ok_uInit {f C : Addr} {fd : FuncData} (F : Fun K "__init__" "UnknownCar.__init__" sUnknownCarInit f fd) (T : OexC K C) (hno : PySem.W.findIn K (.ref C) "name" = some none) : FnOk P w K mg base CX0 1 f fd ["self", "name"] (spUInit C) := by
  refine F.ok scUInit (fun vs H Q E h => ?_) (fun cdv A outer s H vs Q E hr h => ?_)
  · obtain ⟨a, v, rfl, _⟩ := h
    rfl
  · obtain ⟨a, v, rfl, ha, k⟩ := h
    have nd := scUInit.nd
    refine ⟨_, pss_one (ps_ost (pv 0) (pv 1)), ?_⟩
    exact ⟨_, rfl, _, rfl, a, C, rfl, T, hno, .inl ⟨ha, fun dx h1 h2 => k dx h1 h2⟩⟩
/-- an own class of errors with an __init__ of its own -/
structure ErrO (P : Program) (w : World) (K : PySem.W.Frag) (mg : Str → Option Value) (base : Heap) (x : Str) (C : Addr) : Prop where
  T : OexC K C
  g : mg x = some (.ref C)
  init : ∃ fI fd ps, PySem.W.findIn K (.ref C) "__init__" = some (some (.ref fI)) ∧ PySem.W.typeIn K (.ref fI) = some (.type "function") ∧ Binds K fd ps [] ∧ FnOk P w K mg base CX0 1 fI fd ps (spUInit C)
/-! ### check_known, of anything -/
/-- the error that it raises -/
def KnE (CU : Addr) (n : Str) (H : Hp) (E : XK) : Prop := ∀ H' d fs, Same H H' → H' d = some (.xd fs) → fs.lookup ("name" : Str) = some (.str n) → E (.ref CU) (some d) H'
def spKnownX (CU : Addr) : Sp := fun vs H Q E => ∃ (a : Addr) (cars : List Car) (n : Str), vs = [.ref a, .str n] ∧ CarsAt H a cars ∧ CarsOk cars ∧ (n ∈ names cars → ∀ H', Same H H' → Q .non H') ∧ (n ∉ names cars → KnE CU n H E)
theorem ok_knownX {f CU : Addr} {fd : FuncData} (F : Fun K "check_known" "check_known" sCheckKnown f fd) (W : ErrO P w K mg base "UnknownCar" CU) : FnOk P w K mg base (L2.CX P w) 3 f fd ["cars", "name"] (spKnownX CU) := by
  refine F.okX scKnown (fun vs H Q E h => ?_) (fun cdv A outer s H vs Q E hr h => ?_)
  · obtain ⟨a, cars, n, rfl, _⟩ := h
    rfl
  · obtain ⟨a, cars, n, rfl, hC, CO, k, kE⟩ := h
    have nd := scKnown.nd
    obtain ⟨fI, dI, ps, w1, w2, w3, w4⟩ := W.init
    refine ⟨_, pss_one (ps_if (PT.nox (pt_cmpR op_notIn_seq (pv 1) (pe_lc (own := [("known", 2), ("start", 3), ("pace", 4)]) (g := gTup K 3 (gCons (gName 2) (gCons (gName 3) (gCons (gName 4) gNil)))) (tt := tYes) (te := tVar 2) (by rfl) nd (pi_tup (pv 0)) (blkOk_by (N := nKnown) (sc := defScope sCheckKnown) (by decide +kernel))
          (fun _ _ _ _ _ => pg_tup rfl (pgs_cons (pg_name (i := 2) nd rfl (Or.inl rfl)) (pgs_cons (pg_name (i := 3) nd rfl (Or.inl rfl)) (pgs_cons (pg_name (i := 4) nd rfl (Or.inl rfl)) pgs_nil)))) (fun _ _ _ _ _ => pts_nil) (fun _ _ _ _ _ => pv 2)) (by rfl)))
      (pss_one (ps_raise rfl (takes_of rfl rfl rfl rfl) (pmk_oex W.T w1 w2 w4 hr w3 .nil pass0 (by rfl) W.g (pa_cons (pv 1) pa_nil)))) pss_nil), ?_⟩
    obtain ⟨ts, h1, h2, h3⟩ := hC
    have hl : (ts.map V.ref).length = cars.length := by rw [List.length_map, h2]
    refine ⟨_, rfl, _, rfl, a, rfl, ⟨_, SqT.of h1⟩, fun D hD => ?_⟩
    refine lc_it walk_tup (fun i H1 => Same H H1 ∧ H1 D = some (.lst (((cars.take i).map (·.name)).map V.str)))
      ⟨sameNew hD _, upd_same⟩ (fun i H1 _ ⟨k1, _⟩ => SqT.of (k1 _ _ h1)) ?_ ?_
    · rintro i y Hz H1 hi ⟨k1, hD1⟩ ⟨e, hy⟩
      subst e
      obtain ⟨t, ht, rfl⟩ : ∃ t, ts[i]? = some t ∧ y = V.ref t := by
        rw [List.getElem?_map] at hy
        obtain ⟨t, z1, z2⟩ := Option.map_eq_some_iff.mp hy
        exact ⟨t, z1, z2.symm⟩
      rw [hl] at hi
      obtain ⟨c, hc⟩ : ∃ c, cars[i]? = some c := ⟨_, List.getElem?_eq_getElem hi⟩
      have few := CO.few
      refine ⟨t, _, rfl, SqT.of (k1 _ _ (h3 i t c ht hc)), rfl, _, _, rfl, _, _, rfl, _, _, rfl, rfl, rfl, yes_of ?_⟩
      refine ⟨_, rfl, _, hD1, by rw [List.length_map, List.length_map, List.length_take]; exact small1000 (by omega), fun b o e => by rw [upd_ne (ne_of_none e hD)]; exact k1 _ _ e, ?_⟩
      rw [upd_same, tk1 hc, List.map_append, List.map_append]
      rfl
    · rintro H1 ⟨k1, hD1⟩
      rw [hl, List.take_length] at hD1
      refine ⟨D, _, rfl, .inl (SqL.of hD1), rfl, flat_strs _, _, rfl, ?_⟩
      by_cases hn : n ∈ names cars
      · have : inV (V.str n) ((cars.map (·.name)).map V.str) = true := by rw [inV_str]; exact decide_eq_true hn
        rw [this]
        exact iteF (k hn _ k1)
      · have : inV (V.str n) ((cars.map (·.name)).map V.str) = false := by rw [inV_str]; exact decide_eq_false hn
        rw [this]
        refine iteT ⟨_, rfl, by show 1 ≤ 1000; decide, fun a2 ha2 => ⟨a2, .str n, rfl, upd_same, fun dx hdx ne => ⟨rfl, dx, [("name", V.str n)], upd_same, ?_, ?_, ?_⟩⟩⟩
        · rw [upd_ne ne, upd_same]
        · rw [upd_ne ne] at hdx
          exact hdx
        · have hdx1 : H1 dx = none := by rw [upd_ne ne] at hdx; exact hdx
          refine kE hn _ dx [("name", V.str n)] (fun b o e => ?_) upd_same rfl
          have nb : b ≠ dx := fun z => by rw [z] at e; have := k1 _ _ e; rw [hdx1] at this; cases this
          have na : b ≠ a2 := fun z => by rw [z] at e; have := k1 _ _ e; rw [ha2] at this; cases this
          rw [upd_ne nb, del_ne na, upd_ne na, upd_ne nb, upd_ne na]
          exact k1 _ _ e
/-! ### check_new_name, of a name that may be in use -/
def spNewNameX (CNm : Addr) : Sp := fun vs H Q E => ∃ (a : Addr) (cars : List Car) (n : Str), vs = [.ref a, .str n] ∧ CarsAt H a cars ∧ CarsOk cars ∧ NameOk n ∧ (n ∉ names cars → ∀ H', Same H H' → Q .non H') ∧ (n ∈ names cars → ∀ H', Same H H' → E (.ref CNm) none H')
def nNewName : List Str := ["cars", "name", "known", "start", "pace"]
theorem scNewName : FnScope nNewName ["cars", "name"] (defScope sCheckNewName) := ⟨rfl, rfl, rfl, by decide +kernel, rfl, by decide +kernel, by decide +kernel⟩
theorem ok_newNameX {f fN CNm : Addr} {fd dN : FuncData} (F : Fun K "check_new_name" "check_new_name" sCheckNewName f fd) (EN : ErrT K mg "InvalidName" CNm) (BN : Fb K mg "is_name" sIsName ["value"] fN dN) (GN : FnOk P w K mg base CX0 1 fN dN ["value"] spIsName) : FnOk P w K mg base (L2.CX P w) 2 f fd ["cars", "name"] (spNewNameX CNm) := by
  refine F.okX scNewName (fun vs H Q E h => ?_) (fun cdv A outer s H vs Q E hr h => ?_)
  · obtain ⟨a, cars, n, rfl, _⟩ := h
    rfl
  · obtain ⟨a, cars, n, rfl, hC, CO, ho, k, kE⟩ := h
    have nd := scNewName.nd
    refine ⟨_, pss_one (ps_if (PT.nox (PW.pt (pw_or (pt_not (pt_val (pe_call GN hr (by rfl) BN.at_ BN.fn.kp BN.bd .nil pass0 (pa_cons (pv 1) pa_nil)))) (pw_or1 (pt_cmpR op_in_seq (pv 1) (pe_lc (own := [("known", 2), ("start", 3), ("pace", 4)]) (g := gTup K 3 (gCons (gName 2) (gCons (gName 3) (gCons (gName 4) gNil)))) (tt := tYes) (te := tVar 2) (by rfl) nd (pi_tup (pv 0)) (blkOk_by (N := nNewName) (sc := defScope sCheckNewName) (by decide +kernel))
          (fun _ _ _ _ _ => pg_tup rfl (pgs_cons (pg_name (i := 2) nd rfl (Or.inl rfl)) (pgs_cons (pg_name (i := 3) nd rfl (Or.inl rfl)) (pgs_cons (pg_name (i := 4) nd rfl (Or.inl rfl)) pgs_nil)))) (fun _ _ _ _ _ => pts_nil) (fun _ _ _ _ _ => pv 2)) (by rfl)))))) (pss_one (ps_raise rfl (takes_of rfl rfl rfl rfl) (pmk_errT EN (by rfl)))) pss_nil), ?_⟩
    obtain ⟨ts, h1, h2, h3⟩ := hC
    have hl : (ts.map V.ref).length = cars.length := by rw [List.length_map, h2]
    refine ⟨_, rfl, n, rfl, ho, fun H0 s0 => ⟨true, rfl, iteF ?_⟩⟩
    have h1 := s0 _ _ h1
    refine ⟨_, rfl, _, rfl, a, rfl, ⟨_, SqT.of h1⟩, fun D hD => ?_⟩
    refine lc_it walk_tup (fun i H1 => Same H0 H1 ∧ H1 D = some (.lst (((cars.take i).map (·.name)).map V.str)))
      ⟨sameNew hD _, upd_same⟩ (fun i H1 _ ⟨k1, _⟩ => SqT.of (k1 _ _ h1)) ?_ ?_
    · rintro i y Hz H1 hi ⟨k1, hD1⟩ ⟨e, hy⟩
      subst e
      obtain ⟨t, ht, rfl⟩ : ∃ t, ts[i]? = some t ∧ y = V.ref t := by
        rw [List.getElem?_map] at hy
        obtain ⟨t, z1, z2⟩ := Option.map_eq_some_iff.mp hy
        exact ⟨t, z1, z2.symm⟩
      rw [hl] at hi
      obtain ⟨c, hc⟩ : ∃ c, cars[i]? = some c := ⟨_, List.getElem?_eq_getElem hi⟩
      have few := CO.few
      refine ⟨t, _, rfl, SqT.of (k1 _ _ (s0 _ _ (h3 i t c ht hc))), rfl, _, _, rfl, _, _, rfl, _, _, rfl, rfl, rfl, yes_of ?_⟩
      refine ⟨_, rfl, _, hD1, by rw [List.length_map, List.length_map, List.length_take]; exact small1000 (by omega), fun b o e => by rw [upd_ne (ne_of_none e hD)]; exact k1 _ _ e, ?_⟩
      rw [upd_same, tk1 hc, List.map_append, List.map_append]
      rfl
    · rintro H1 ⟨k1, hD1⟩
      rw [hl, List.take_length] at hD1
      refine ⟨D, _, rfl, .inl (SqL.of hD1), rfl, flat_strs _, ?_⟩
      by_cases hn : n ∈ names cars
      · have : inV (V.str n) ((cars.map (·.name)).map V.str) = true := by rw [inV_str]; exact decide_eq_true hn
        rw [this]
        exact ⟨true, rfl, iteT (kE hn _ (s0.trans k1))⟩
      · have : inV (V.str n) ((cars.map (·.name)).map V.str) = false := by rw [inV_str]; exact decide_eq_false hn
        rw [this]
        exact ⟨false, rfl, iteF (k hn _ (s0.trans k1))⟩
end
end Sl

set_option Elab.async false
set_option linter.all false
set_option maxRecDepth 100000
set_option maxHeartbeats 1000000
namespace Sl
open PySem PySem.Spec L2 OwnR LamX
/-- an instance is called -/
def InsH (H : Hp) (a C : Addr) : Prop := (∃ dx vs, SlX.Slt H a C dx vs) ∨ ∃ dx fs, H a = some (.ins C dx fs)
def tCallH (C : Addr) (sp : Sp) (E : XK) (tf : TE) (t : TA) : TE := fun σ H Q => tf σ H fun y H1 => ∃ a, y = V.ref a ∧ t σ H1 fun vs H2 => InsH H2 a C ∧ sp (V.ref a :: vs) H2 Q E
theorem pe_callH {X : Cx} {CX : CXT} {k : Nat} {C : Addr} {sp : Sp} {E : XK} {e fe : Expr} {es : List Expr} {tf : TE} {t : TA} {pos : Pos} {g : Addr} (hf : PE X fe tf) (c : StX.CallO X.K C g) (F : FnR X.prog X.w X.K X.mg X.base CX k g sp) (hr : Room k X.A) (hx : Passes CX X E) (ha : PA X (e :: es) t)
    (ht : eval (.Call fe (e :: es) [] pos) X.env = (do callWith pos (← eval fe X.env) [] (backTo pos (starEach (e :: es) X.env)) (backToKw pos (keywordEach [] X.env))) := by rfl)
    (he : starEach (e :: es) X.env = (false, eval e X.env) :: starEach es X.env := by rfl) (hpl : (backTo pos (starEach es X.env)).any (·.1) = false := by rfl) : PE X (.Call fe (e :: es) [] pos) (tCallH C sp E tf t) := StX.pe_callO hf c F hr hx ha ht he hpl
end Sl

set_option Elab.async false
set_option linter.all false
set_option maxRecDepth 100000
set_option maxHeartbeats 2000000
namespace Sl
open PySem PySem.Spec L2 OwnR LamX
/-! ### dicts of arrivals, dicts of changes -/
def arrK (S : St2) : List (Key × V) := S.2.map fun c => (Sum.inr c.name, V.int (arrL S c.name))
theorem arrK_get {S : St2} (nd : (names S.2).Nodup) {n : Str} (h : n ∈ names S.2) : valV (arrK S) (Sum.inr n : Key) = some (.int (arrL S n)) := by
  obtain ⟨c, hc, rfl⟩ := List.mem_map.mp h
  exact valV_names (g := fun c => V.int (arrL S c.name)) nd hc
theorem gS {H : Hp} {a : Addr} {kvs : List (Key × V)} {n : Str} {v : V} (e : H a = some (.dK kvs)) (h : valV kvs (Sum.inr n : Key) = some v) : DGet H a (.str n) (some v) := by
  have := DGet.k (k := (Sum.inr n : Key)) e
  rw [h] at this
  exact this
def PairsAt (H : Hp) (d : Addr) (ns : List Str) (g : Str → Int × Int) : Prop := ∃ ts : List Addr, H d = some (.dK ((ns.zip ts).map fun q => ((Sum.inr q.1 : Key), V.ref q.2))) ∧ ts.length = ns.length ∧ ∀ (i : Nat) (t : Addr) (m : Str), ts[i]? = some t → ns[i]? = some m → H t = some (.tup [.int (g m).1, .int (g m).2])
theorem PairsAt.ext {H H' : Hp} {d : Addr} {ns : List Str} {g : Str → Int × Int} (h : PairsAt H d ns g) (e : ExtN H H') : PairsAt H' d ns g := by
  obtain ⟨ts, h1, h2, h3⟩ := h
  exact ⟨ts, e _ _ h1 (fun _ z => nomatch z), h2, fun i t m e1 e2 => ExtN.tup e (h3 i t m e1 e2)⟩
theorem zip_snoc {α β : Type} {l : List α} {r : List β} {x : α} {y : β} (h : l.length = r.length) : (l ++ [x]).zip (r ++ [y]) = l.zip r ++ [(x, y)] := by
  rw [List.zip_append h]
  rfl
theorem put_new {ns : List Str} {ts : List Addr} {m : Str} {v : V} (h : ts.length = ns.length) (hm : m ∉ ns) : putK ((ns.zip ts).map fun q => ((Sum.inr q.1 : Key), V.ref q.2)) (Sum.inr m : Key) v = ((ns.zip ts).map fun q => ((Sum.inr q.1 : Key), V.ref q.2)) ++ [((Sum.inr m : Key), v)] := by
  refine putK_new _ ?_
  induction ns generalizing ts with
  | nil => rfl
  | cons a l ih =>
    cases ts with
    | nil => rfl
    | cons t r =>
      have hne : ¬ (Sum.inr a : Key) = Sum.inr m := fun z => hm (by rw [Sum.inr.inj z]; exact List.mem_cons_self)
      show valV (((Sum.inr a : Key), V.ref t) :: ((l.zip r).map fun q => ((Sum.inr q.1 : Key), V.ref q.2))) _ = none
      rw [valV_neg hne]
      exact ih (by simpa using h) fun z => hm (List.mem_cons_of_mem _ z)
/-- one more pair -/
theorem PairsAt.snoc {H : Hp} {d t : Addr} {ns : List Str} {g : Str → Int × Int} {m : Str} (h : PairsAt H d ns g) (hm : m ∉ ns) (ht : H t = some (.tup [.int (g m).1, .int (g m).2])) : ∃ kv, H d = some (.dK kv) ∧ kv.length = ns.length ∧ PairsAt (upd H d (.dK (putK kv (Sum.inr m : Key) (.ref t)))) d (ns ++ [m]) g := by
  obtain ⟨ts, h1, h2, h3⟩ := h
  refine ⟨_, h1, by rw [List.length_map, List.length_zip, h2, Nat.min_self], ts ++ [t], by rw [upd_same, put_new h2 hm, zip_snoc h2.symm, List.map_append]; rfl, by rw [List.length_append, List.length_append, h2]; rfl, fun i t' m' e1 e2 => ?_⟩
  rcases snoc_get e1 with e1 | ⟨hq, rfl⟩
  · have hql := (List.getElem?_eq_some_iff.mp e1).1
    rw [List.getElem?_append_left (by omega)] at e2
    have q := h3 i t' m' e1 e2
    rw [upd_ne (ne_of q h1 (by intro z; cases z))]
    exact q
  · rw [List.getElem?_append_right (by omega), hq, h2, Nat.sub_self] at e2
    have : m = m' := by simpa using e2
    rw [upd_ne (ne_of ht h1 (by intro z; cases z)), ← this]
    exact ht
/-- nothing stood there, but for a table -/
def NewA (H : Hp) (d : Addr) : Prop := ∀ o, H d = some o → ∃ ps, o = .tbl ps
theorem NewA.of {H H1 : Hp} {d : Addr} (e : ExtN H H1) (h : H1 d = none) : NewA H d := fun o q => by
  by_cases hb : ∃ ps, o = .tbl ps
  · exact hb
  · have := e _ _ q (fun ps z => hb ⟨ps, z⟩)
    rw [h] at this
    cases this
theorem NewA.ext {H H1 : Hp} {d : Addr} (e : ExtN H H1) (h : NewA H1 d) : NewA H d := fun o q => by
  by_cases hb : ∃ ps, o = .tbl ps
  · exact hb
  · exact h o (e _ _ q (fun ps z => hb ⟨ps, z⟩))
theorem NewA.ne {H : Hp} {a d : Addr} {o : HO} (h : NewA H d) (e : H a = some o) (n : ∀ ps, o ≠ .tbl ps) : a ≠ d := fun z => by
  obtain ⟨ps, q⟩ := h o (z ▸ e)
  exact n ps q
section
variable {P : Program} {w : World} {K : PySem.W.Frag} {mg : Str → Option Value} {base : Heap}
theorem mk_drive {CR C : Addr} {T : List (Addr × Str)} {H : Hp} {p a dv dx : Addr} {secs : List Sec} {cars : List Car} (rd : RoadAt CR H p secs) (ct : CarsAt H a cars) (SO : SecsOk secs) (CO : CarsOk cars) (hT : Tabs T H) (hdv : H dv = none) (hdx : H dx = none) {Q : VK} {E : XK}
    (k : ∀ H', ExtN H H' → Tabs T H' → DA C H' dv secs cars → Q .non H') : spDInit CR C T [.ref dv, .ref p, .ref a] (upd (upd H dx (.own dv)) dv (.ins C dx [])) Q E := by
  have S2 : Same H (upd (upd H dx (.own dv)) dv (.ins C dx [])) := fun b o e => by rw [upd_ne (ne_of_none e hdv), upd_ne (ne_of_none e hdx)]; exact e
  exact ⟨H, dv, dx, p, a, secs, cars, rfl, upd_same, S2, hdv, rd, ct, SO, CO, hT, fun H' W DW T' => k H' DW.ext T' ⟨_, W, DW⟩⟩
/-! ### _arrivals -/
abbrev spCallR1 (C : Addr) : Sp := fun vs H Q E => spCallD C (vs ++ [V.non]) H Q E
def spArrs (CR : Addr) (T : List (Addr × Str)) : Sp := fun vs H Q _ => ∃ (p a : Addr) (S : St2), vs = [.ref p, .ref a] ∧ RoadAt CR H p S.1 ∧ CarsAt H a S.2 ∧ StOk S ∧ Tabs T H ∧ ∀ H' d, ExtN H H' → Tabs T H' → NewA H d → H' d = some (.dK (arrK S)) → Q (.ref d) H'
def nArrs : List Str := ["road", "cars", "drive", "name", "start", "pace"]
theorem scArrs : FnScope nArrs ["road", "cars"] (defScope sArrivals) := ⟨rfl, rfl, rfl, by decide +kernel, rfl, by decide +kernel, by decide +kernel⟩
theorem ok_arrs {f fI fQ CR C : Addr} {fd dI dQ : FuncData} {dvs : List Value} {T : List (Addr × Str)} (F : Fun K "_arrivals" "_arrivals" sArrivals f fd) (R : DriveT K mg C) (MI : Mk K C fI) (bI : Binds K dI ["self", "road", "cars"] []) (GI : FnOk P w K mg base CX0 5 fI dI ["self", "road", "cars"] (spDInit CR C T))
    (CO2 : StX.CallO K C fQ) (bC1 : Binds K dQ ["self", "name", "place"] dvs) (vC : Vals [V.non] dvs) (GQ : FnOk P w K mg base CX0 3 fQ dQ ["self", "name", "place"] (spCallD C)) : FnOk P w K mg base CX0 7 f fd ["road", "cars"] (spArrs CR T) := by
  refine F.ok scArrs (fun vs H Q E h => ?_) (fun cdv A outer s H vs Q E hr h => ?_)
  · obtain ⟨p, a, S, rfl, _⟩ := h
    rfl
  · obtain ⟨p, a, S, rfl, rd, ct, ok, hT, k⟩ := h
    have nd := scArrs.nd
    have hr3 : Room 3 (A.deeper (PyProof.Rows.envOfC "_arrivals" (defScope sArrivals) s.heap.objs.size f cdv)) := hr.mono (by decide)
    refine ⟨_, pss_cons (ps_set (i := 2) nd rfl (.inr rfl) (pe_make MI GI hr (by rfl) R.mgC bI .nil pass0 (pa_cons (pv 0) (pa_cons (pv 1) pa_nil))))
      (pss_one (ps_ret (pe_dc (own := [("name", 3), ("start", 4), ("pace", 5)]) (g := gTup K 3 (gCons (gName 3) (gCons (gName 4) (gCons (gName 5) gNil)))) (tt := tYes) (tk := tVar 3) (tv := tCallH C (spCallR1 C) L2.E0 (tVar 2) (tCons (tVar 3) tNil)) (by rfl) nd (pi_tup (pv 1)) (blkOk_by (N := nArrs) (sc := defScope sArrivals) (by decide +kernel))
          (fun _ _ _ _ _ => pg_tup rfl (pgs_cons (pg_name (i := 3) nd rfl (Or.inl rfl)) (pgs_cons (pg_name (i := 4) nd rfl (Or.inl rfl)) (pgs_cons (pg_name (i := 5) nd rfl (Or.inl rfl)) pgs_nil)))) (fun _ _ _ _ _ => pts_nil) (fun _ _ _ _ _ => pv 3)
          (fun _ _ _ _ _ => pe_callH (pv 2) CO2 (GQ.raw bC1 vC) hr3 pass0 (pa_cons (pv 3) pa_nil))))), ?_⟩
    refine ⟨_, rfl, _, rfl, fun dv dx hdv hdx ndx => mk_drive rd ct ok.so ok.co hT hdv hdx fun H1 e1 T1 da1 => ⟨rfl, ?_⟩⟩
    have ct1 := ct.ext e1
    obtain ⟨ts, h1, h2, h3⟩ := id ct1
    have hl : (ts.map V.ref).length = S.2.length := by rw [List.length_map, h2]
    have ndn : (names S.2).Nodup := ok.co.nd
    have few := ok.co.few
    refine ⟨_, rfl, a, rfl, ⟨_, SqT.of h1⟩, fun D hD => ?_⟩
    refine dc_it walk_tup (fun i H2 => Same H1 H2 ∧ H2 D = some (.dK ((S.2.take i).map fun c => ((Sum.inr c.name : Key), V.int (arrL S c.name))))) ⟨sameNew hD _, upd_same⟩ (fun i H2 _ ⟨k2, _⟩ => SqT.of (k2 _ _ h1)) ?_ ?_
    · rintro i y Hz H2 hi ⟨k2, hD2⟩ ⟨e, hy⟩
      subst e
      obtain ⟨t, ht, rfl⟩ : ∃ t, ts[i]? = some t ∧ y = V.ref t := by
        rw [List.getElem?_map] at hy
        obtain ⟨t, z1, z2⟩ := Option.map_eq_some_iff.mp hy
        exact ⟨t, z1, z2.symm⟩
      rw [hl] at hi
      obtain ⟨c, hc⟩ : ∃ c, S.2[i]? = some c := ⟨_, List.getElem?_eq_getElem hi⟩
      have da2 := da1.ext (ExtN.same k2)
      obtain ⟨_, W2, D2⟩ := id da2
      have hm : c.name ∈ names S.2 := List.mem_map_of_mem (List.mem_of_getElem? hc)
      refine ⟨t, _, rfl, SqT.of (k2 _ _ (h3 i t c ht hc)), rfl, _, _, rfl, _, _, rfl, _, _, rfl, rfl, rfl, yes_of ?_⟩
      refine ⟨_, rfl, _, rfl, dv, rfl, _, rfl, .inr ⟨_, _, D2.ins⟩, dv, S.1, S.2, c.name, S.1.length, .non, rfl, da2, hm, Nat.le_refl _, .inl ⟨rfl, rfl⟩, ?_⟩
      refine ⟨_, Sum.inr c.name, rfl, hD2, by rw [List.length_map, List.length_take]; exact small1000 (by omega), fun b o e => by rw [upd_ne (ne_of_none e hD)]; exact k2 _ _ e, ?_⟩
      rw [upd_same, ← put_car (g := fun c => V.int (arrL S c.name)) ndn hc]
      rfl
    · rintro H2 ⟨k2, hD2⟩
      rw [hl, List.take_length] at hD2
      exact k H2 D (e1.trans (ExtN.same k2)) (T1.ext k2) (NewA.of e1 hD) hD2
/-! ### _changes -/
def spChanges : Sp := fun vs H Q _ => ∃ (b c : Addr) (S S' : St2), vs = [.ref b, .ref c] ∧ H b = some (.dK (arrK S)) ∧ H c = some (.dK (arrK S')) ∧ b ≠ c ∧ (∀ n ∈ names S'.2, n ∈ names S.2) ∧ (names S.2).Nodup ∧ (names S'.2).Nodup ∧ S'.2.length ≤ 10 ∧ ∀ H' d, Same H H' → H d = none → PairsAt H' d (chgN S S') (fun n => (arrL S n, arrL S' n)) → Q (.ref d) H'
def nChanges : List Str := ["before", "after", "name", "arrival"]
theorem scChanges : FnScope nChanges ["before", "after"] (defScope sChanges) := ⟨rfl, rfl, rfl, by decide +kernel, rfl, by decide +kernel, by decide +kernel⟩
theorem ok_changes {f : Addr} {fd : FuncData} (F : Fun K "_changes" "_changes" sChanges f fd) : FnOk P w K mg base CX0 1 f fd ["before", "after"] spChanges := by
  refine F.ok scChanges (fun vs H Q E h => ?_) (fun cdv A outer s H vs Q E hr h => ?_)
  · obtain ⟨b, c, S, S', rfl, _⟩ := h
    rfl
  · obtain ⟨b, c, S, S', rfl, hb, hc, nbc, sub, nd1, nd2, few, k⟩ := h
    have nd := scChanges.nd
    have hu := hu_of hr
    refine ⟨_, pss_one (ps_ret (pe_lock (pe_dc (own := [("name", 2), ("arrival", 3)]) (g := gTup K 2 (gCons (gName 2) (gCons (gName 3) gNil))) (tt := tTest (tOp rNe (tDGet (tVar 0) (tVar 2)) (tVar 3)))
          (tk := tVar 2) (tv := tTup (tCons (tDGet (tVar 0) (tVar 2)) (tCons (tVar 3) tNil)))
          (by rfl) nd (pi_items (pv 1)) (blkOk_by (N := nChanges) (sc := defScope sChanges) (by decide +kernel))
          (fun _ _ _ _ _ => pg_tup rfl (pgs_cons (pg_name (i := 2) nd rfl (Or.inl rfl)) (pgs_cons (pg_name (i := 3) nd rfl (Or.inl rfl)) pgs_nil))) (fun _ _ _ _ _ => pts_one (pt_cmpR op_ne (pe_dget hu (pv 0) (pv 2) (fun _ _ => rfl)) (pv 3) (nomark _))) (fun _ _ _ _ _ => pv 2)
          (fun _ _ _ _ _ => pe_tup (pa_cons (pe_dget hu (pv 0) (pv 2) (fun _ _ => rfl)) (pa_cons (pv 3) pa_nil)))))), ?_⟩
    refine ⟨c, _, hc, True.intro, fun od => ?_⟩
    have np : ∀ x o, H x = some o → x ≠ c → upd H c (.frz od (.dK (arrK S'))) x = some o := fun x o e n => by rw [upd_ne n]; exact e
    have hz : upd H c (.frz od (.dK (arrK S'))) c = some (.frz od (.dK (arrK S'))) := upd_same
    generalize upd H c (.frz od (.dK (arrK S'))) = H2 at np hz ⊢
    refine ⟨_, rfl, c, od, _, rfl, hz, fun D hD => ?_⟩
    have nD : c ≠ D := ne_of_none hz hD
    have eln : (arrK S').length = S'.2.length := by unfold arrK; rw [List.length_map]
    refine dc_it walk_items (fun i H3 => (∀ x o, H x = some o → x ≠ c → H3 x = some o) ∧ H3 c = some (.frz od (.dK (arrK S'))) ∧ PairsAt H3 D (((names S'.2).take i).filter fun n => decide (arrL S n ≠ arrL S' n)) (fun n => (arrL S n, arrL S' n)))
      ⟨fun x o e n => by rw [upd_ne (ne_of_none (np _ _ e n) hD)]; exact np _ _ e n, by rw [upd_ne nD]; exact hz, [], upd_same, rfl, fun _ _ _ z => nomatch z⟩ (fun i H3 _ ⟨_, q, _⟩ => q) ?_ ?_
    · rintro i y H3 H4 hi ⟨k3, z3, d3⟩ ⟨T, x1, x2, rfl, hT, rfl, e1, e2⟩
      have hic : i < S'.2.length := by rw [eln] at hi; exact hi
      obtain ⟨q, hq⟩ : ∃ q, S'.2[i]? = some q := ⟨_, List.getElem?_eq_getElem hic⟩
      have hk : (arrK S')[i]? = some (Sum.inr q.name, V.int (arrL S' q.name)) := by unfold arrK; rw [List.getElem?_map, hq]; rfl
      have e1 : ((arrK S')[i]?).map (fun kv => kV kv.1) = some x1 := e1
      have e2 : ((arrK S')[i]?).map Prod.snd = some x2 := e2
      rw [hk] at e1 e2
      have e1' : x1 = V.str q.name := (Option.some.inj e1).symm
      have e2' : x2 = V.int (arrL S' q.name) := (Option.some.inj e2).symm
      subst e1' e2'
      have s4 := sameNew hT (.tup [V.str q.name, V.int (arrL S' q.name)])
      have hm : q.name ∈ names S'.2 := List.mem_map_of_mem (List.mem_of_getElem? hq)
      have hni : (names S'.2)[i]? = some q.name := by unfold names; rw [List.getElem?_map, hq]; rfl
      refine ⟨T, _, rfl, SqT.of upd_same, rfl, _, _, rfl, _, _, rfl, rfl, rfl, ?_⟩
      have k4 : ∀ x o, H x = some o → x ≠ c → upd H3 T (.tup [V.str q.name, V.int (arrL S' q.name)]) x = some o := fun x o e n => s4 _ _ (k3 x o e n)
      have z4 := s4 _ _ z3
      have d4 := d3.ext (ExtN.same s4)
      generalize upd H3 T (.tup [V.str q.name, V.int (arrL S' q.name)]) = H5 at k4 z4 d4 ⊢
      have gb := gS (k4 _ _ hb nbc) (arrK_get nd1 (sub _ hm))
      refine ⟨_, rfl, _, rfl, b, _, rfl, gb, _, rfl, rfl, _, rfl, ?_⟩
      have en : ((names S'.2).take (i + 1)).filter (fun n => decide (arrL S n ≠ arrL S' n)) = ((names S'.2).take i).filter (fun n => decide (arrL S n ≠ arrL S' n)) ++ if arrL S q.name ≠ arrL S' q.name then [q.name] else [] := by
        rw [tk1 hni, List.filter_append]
        by_cases g : arrL S q.name ≠ arrL S' q.name
        · rw [if_pos g, List.filter_cons_of_pos (by simpa using g)]; rfl
        · rw [if_neg g, List.filter_cons_of_neg (by simpa using g)]; rfl
      by_cases g : arrL S q.name = arrL S' q.name
      · rw [show (!decide (V.int (arrL S q.name) = V.int (arrL S' q.name))) = false by rw [decide_eq_true (congrArg V.int g)]; rfl]
        refine iteF ⟨k4, z4, ?_⟩
        rw [en, if_neg (fun z => z g), List.append_nil]
        exact d4
      · rw [show (!decide (V.int (arrL S q.name) = V.int (arrL S' q.name))) = true by rw [decide_eq_false (fun z => g (V.int.inj z))]; rfl]
        refine iteT ⟨_, rfl, _, rfl, _, rfl, b, _, rfl, gb, _, rfl, by show 2 ≤ sizeLine; decide, fun u hu6 => ?_⟩
        have s6 := sameNew hu6 (.tup [V.int (arrL S q.name), V.int (arrL S' q.name)])
        have hnew : q.name ∉ ((names S'.2).take i).filter fun n => decide (arrL S n ≠ arrL S' n) := fun z => by
          have z := (List.mem_filter.mp z).1
          obtain ⟨j, hj⟩ := List.mem_iff_getElem?.mp z
          rw [List.getElem?_take] at hj
          split at hj
          · have := nd_ix nd2 hj hni
            omega
          · cases hj
        obtain ⟨kv, v1, v2, v3⟩ := PairsAt.snoc (g := fun n => (arrL S n, arrL S' n)) (d4.ext (ExtN.same s6)) hnew upd_same
        refine ⟨kv, Sum.inr q.name, rfl, v1, by rw [v2]; exact small1000 (Nat.le_trans (List.length_filter_le _ _) (by rw [List.length_take]; omega)), fun x o e n => ?_, ?_, ?_⟩
        · rw [upd_ne (fun z => ?_)]
          · exact s6 _ _ (k4 _ _ e n)
          · rw [z] at e
            have q := np _ _ e (fun y => nD (y ▸ rfl))
            rw [hD] at q
            cases q
        · rw [upd_ne nD]
          exact s6 _ _ z4
        · rw [en, if_pos g]
          exact v3
    · rintro H3 ⟨k3, z3, d3⟩
      rw [eln, show S'.2.length = (names S'.2).length by unfold names; rw [List.length_map], List.take_length] at d3
      refine ⟨z3, k _ D (fun x o e => ?_) ?_ ?_⟩
      · by_cases eb : x = c
        · rw [eb, hc] at e
          cases e
          rw [eb]
          exact upd_same
        · rw [upd_ne eb]
          exact k3 _ _ e eb
      · cases q : H D with
        | none => rfl
        | some o =>
          have := np _ _ q nD.symm
          rw [hD] at this
          cases this
      · obtain ⟨ts, p1, p2, p3⟩ := d3
        refine ⟨ts, by rw [upd_ne nD.symm]; exact p1, p2, fun i t m e1 e2 => ?_⟩
        have z := p3 i t m e1 e2
        rw [upd_ne (ne_of z z3 (by intro w; cases w))]
        exact z
end
end Sl

set_option Elab.async false
set_option linter.all false
set_option maxRecDepth 100000
set_option maxHeartbeats 4000000
namespace Sl
open PySem PySem.Spec L2 OwnR LamX
/-! ### one operation on what is there -/
def ErAt (CNm CMy CU : Addr) (H : Hp) (cls : Value) (d : Option Addr) : Er → Prop
  | .name => cls = .ref CNm ∧ d = none
  | .many => cls = .ref CMy ∧ d = none
  | .car n => cls = .ref CU ∧ ∃ b fs, d = some b ∧ H b = some (.xd fs) ∧ fs.lookup ("name" : Str) = some (.str n)
def RsAt (H : Hp) (v : V) : Rs → Prop
  | .tick i => v = .int i
  | .chg ns g => ∃ d, v = .ref d ∧ PairsAt H d ns g
theorem RsAt.ext {H H' : Hp} {v : V} {r : Rs} (h : RsAt H v r) (e : ExtN H H') : RsAt H' v r := by
  cases r with
  | tick i => exact h
  | chg ns g =>
    obtain ⟨d, h1, h2⟩ := h
    exact ⟨d, h1, h2.ext e⟩
def StepR (CR CNm CMy CU : Addr) (T : List (Addr × Str)) (H : Hp) (S : St2) (o : Op) (Q : VK) (E : XK) : Prop :=
  (∀ e, stepO S o = .inl e → ∀ H' cls d, ExtN H H' → Tabs T H' → ErAt CNm CMy CU H' cls d e → E cls d H') ∧
  (∀ S' r, stepO S o = .inr (S', r) → ∀ H' t p a v, ExtN H H' → Tabs T H' → H' t = some (.tup [.ref p, .ref a, v]) → RoadAt CR H' p S'.1 → CarsAt H' a S'.2 → RsAt H' v r → Q (.ref t) H')
structure AtS (CR : Addr) (T : List (Addr × Str)) (H : Hp) (p a : Addr) (S : St2) : Prop where
  rd : RoadAt CR H p S.1
  ct : CarsAt H a S.2
  ok : StOk S
  tb : Tabs T H
theorem AtS.same {CR : Addr} {T : List (Addr × Str)} {H H' : Hp} {p a : Addr} {S : St2} (h : AtS CR T H p a S) (s : Same H H') : AtS CR T H' p a S := ⟨h.rd.ext (ExtN.same s), h.ct.same s, h.ok, h.tb.ext s⟩
theorem AtS.ext {CR : Addr} {T : List (Addr × Str)} {H H' : Hp} {p a : Addr} {S : St2} (h : AtS CR T H p a S) (e : ExtN H H') (t : Tabs T H') : AtS CR T H' p a S := ⟨h.rd.ext e, h.ct.ext e, h.ok, t⟩
theorem snocC_at {H : Hp} {t q : Addr} {ts : List Addr} {cars : List Car} {c : Car} (h2 : ts.length = cars.length) (h3 : ∀ (i : Nat) (t : Addr) (c : Car), ts[i]? = some t → cars[i]? = some c → H t = some (.tup c.vs)) (ht : H t = some (.tup c.vs)) (hq : H q = some (.tup (ts.map V.ref ++ [.ref t]))) : CarsAt H q (cars ++ [c]) := by
  refine ⟨ts ++ [t], by rw [hq, List.map_append]; rfl, by rw [List.length_append, List.length_append, h2]; rfl, fun i b d e1 e2 => ?_⟩
  rcases Nat.lt_or_ge i cars.length with lt | ge
  · rw [List.getElem?_append_left (by omega)] at e1
    rw [List.getElem?_append_left lt] at e2
    exact h3 i b d e1 e2
  · rw [List.getElem?_append_right (by omega)] at e1
    rw [List.getElem?_append_right ge] at e2
    have : i - cars.length = 0 := by
      have := (List.getElem?_eq_some_iff.mp e2).1
      simp at this
      omega
    rw [h2, this] at e1
    rw [this] at e2
    cases e1
    cases e2
    exact ht
section
variable {P : Program} {w : World} {K : PySem.W.Frag} {mg : Str → Option Value} {base : Heap}
/-! ### _join -/
def spJoin (CR CNm CMy CU : Addr) (T : List (Addr × Str)) : Sp := fun vs H Q E => ∃ (p a : Addr) (S : St2) (n : Str) (st pc : Nat), vs = [.ref p, .ref a, .str n, .int ((st : Nat) : Int), .int ((pc : Nat) : Int)] ∧ AtS CR T H p a S ∧ OpOk S (.join n st pc) ∧ StepR CR CNm CMy CU T H S (.join n st pc) Q E
def nJoin : List Str := ["road", "cars", "name", "start", "pace", "earliest", "joined"]
theorem scJoin : FnScope nJoin ["road", "cars", "name", "start", "pace"] (defScope sJoin) := ⟨rfl, rfl, rfl, by decide +kernel, rfl, by decide +kernel, by decide +kernel⟩
theorem ok_join {f fN fB fA CR CNm CMy CU : Addr} {fd dN dB dA : FuncData} {T : List (Addr × Str)} (F : Fun K "_join" "_join" sJoin f fd) (M : Mg mg) (EM : ErrT K mg "TooManyCars" CMy)
    (BN : Fb K mg "check_new_name" sCheckNewName ["cars", "name"] fN dN) (GN : FnOk P w K mg base (L2.CX P w) 2 fN dN ["cars", "name"] (spNewNameX CNm))
    (BB : Fb K mg "is_number" sIsNumber ["value", "least", "most"] fB dB) (GB : FnOk P w K mg base CX0 1 fB dB ["value", "least", "most"] spIsNumber)
    (BA : Fb K mg "_arrivals" sArrivals ["road", "cars"] fA dA) (GA : FnOk P w K mg base CX0 7 fA dA ["road", "cars"] (spArrs CR T)) : FnOk P w K mg base (L2.CX P w) 8 f fd ["road", "cars", "name", "start", "pace"] (spJoin CR CNm CMy CU T) := by
  obtain ⟨tc, MC⟩ := M.mostCars
  obtain ⟨ts0, MS⟩ := M.latestStart
  obtain ⟨tp0, MP⟩ := M.slowestPace
  refine F.okX scJoin (fun vs H Q E h => ?_) (fun cdv A outer s H vs Q E hr h => ?_)
  · obtain ⟨p, a, S, n, st, pc, rfl, _⟩ := h
    rfl
  · obtain ⟨p, a, S, n, st, pc, rfl, A0, ⟨hn, hlast, hs, p1, p2⟩, kE, k⟩ := h
    have nd := scJoin.nd
    have hu := hu_of hr
    have hr1 : Room 1 (A.deeper (PyProof.Rows.envOfC "_join" (defScope sJoin) s.heap.objs.size f cdv)) := hr.mono (by decide)
    have hr2 : Room 2 (A.deeper (PyProof.Rows.envOfC "_join" (defScope sJoin) s.heap.objs.size f cdv)) := hr.mono (by decide)
    refine ⟨_, pss_cons (ps_expr (pe_call GN hr2 (by rfl) BN.at_ BN.fn.kp BN.bd .nil (passes_call (takes_of rfl rfl rfl rfl) fun _ _ _ _ h => h) (pa_cons (pv 1) (pa_cons (pv 2) pa_nil))))
      (pss_cons (ps_set (i := 5) nd rfl (.inl rfl) (pe_ifExp (pt_truth (pv 1) (fun _ => rfl)) (pe_ix (r := rIxT K) ix_tup (pe_ix (r := rIxT K) ix_tup (pv 1) (pe_un un_neg pe_int) (fun _ _ => rfl)) pe_int (fun _ _ => rfl)) pe_int))
      (pss_cons (ps_if (pt_not (pt_val (pe_call GB hr1 (by rfl) BB.at_ BB.fn.kp BB.bd .nil pass0 (pa_cons (pv 3) (pa_cons (pv 5) (pa_cons (pe_glob (v := .int 1000000) (by rfl) MS ⟨_, rfl⟩) pa_nil)))))) (pss_one ps_never) pss_nil)
      (pss_cons (ps_if (pt_not (pt_val (pe_call GB hr1 (by rfl) BB.at_ BB.fn.kp BB.bd .nil pass0 (pa_cons (pv 4) (pa_cons pe_int (pa_cons (pe_glob (v := .int 60) (by rfl) MP ⟨_, rfl⟩) pa_nil)))))) (pss_one ps_never) pss_nil)
      (pss_cons (ps_if (pt_cmpR op_eq (pe_callB call_len_seq (by rfl) M.len boot_len (pa_cons (pv 1) pa_nil)) (pe_glob (v := .int 10) (by rfl) MC ⟨_, rfl⟩) (nomark _)) (pss_one (ps_raise rfl (takes_of rfl rfl rfl rfl) (pmk_errT EM (by rfl)))) pss_nil)
      (pss_cons (ps_set (i := 6) nd rfl (.inl rfl) (pe_op op_catA (pv 1) (pe_tup (pa_cons (pe_tup (pa_cons (pv 2) (pa_cons (pv 3) (pa_cons (pv 4) pa_nil)))) pa_nil))))
      (pss_one (ps_ret (pe_tup (pa_cons (pv 0) (pa_cons (pv 6) (pa_cons (pe_dget hu (pe_call GA hr (by rfl) BA.at_ BA.fn.kp BA.bd .nil pass0 (pa_cons (pv 0) (pa_cons (pv 6) pa_nil))) (pv 2) (fun _ _ => rfl)) pa_nil))))))))))), ?_⟩
    refine ⟨_, rfl, _, rfl, a, S.2, n, rfl, A0.ct, A0.ok.co, hn, fun hni H1 s1 => ?_, fun hin H1 s1 => ?_⟩
    rotate_left
    · refine kE .name (by rw [step_join, if_pos hin]) H1 _ _ (ExtN.same s1) (A0.tb.ext s1) ⟨rfl, rfl⟩
    have A1 := A0.same s1
    obtain ⟨ts, t1, t2, t3⟩ := id A1.ct
    have hts : (ts.map V.ref).length = S.2.length := by rw [List.length_map, t2]
    have few := A0.ok.co.few
    -- the earliest start
    dsimp only
    refine seq_cut (fun σ' H' => ∃ ec : Int, ec ≤ ((st : Nat) : Int) ∧ σ' = [some (.ref p), some (.ref a), some (.str n), some (.int ((st : Nat) : Int)), some (.int ((pc : Nat) : Int)), some (.int ec), none] ∧ H' = H1) (fun nx done => ?_) ?_
    · refine ⟨_, rfl, _, .inr (.inl ⟨_, SqT.of t1, rfl⟩), ?_⟩
      cases hc : S.2.getLast? with
      | none =>
        have e0 : S.2 = [] := List.getLast?_eq_none_iff.mp hc
        have e1 : ts = [] := List.length_eq_zero_iff.mp (by rw [t2, e0]; rfl)
        rw [e1]
        exact iteF (done _ _ ⟨0, by omega, rfl, rfl⟩)
      | some c =>
        obtain ⟨l, hl⟩ := List.getLast?_eq_some_iff.mp hc
        have hlen : S.2.length = l.length + 1 := by rw [hl, List.length_append]; rfl
        have hci : S.2[l.length]? = some c := by rw [hl, List.getElem?_append_right (Nat.le_refl _), Nat.sub_self]; rfl
        obtain ⟨t, ht⟩ : ∃ t, ts[l.length]? = some t := ⟨_, List.getElem?_eq_getElem (by omega)⟩
        rw [show (!(ts.map V.ref).isEmpty) = true by cases ts with | nil => cases ht | cons _ _ => rfl]
        refine iteT ⟨_, rfl, _, rfl, a, _, _, .ref t, rfl, rfl, SqT.of t1, atI_lst (by rw [hts, hlen]) (map_atZ V.ref ht), t, _, ((1 : Nat) : Int), .int c.start, rfl, rfl, SqT.of (t3 _ t c ht hci), atI_nat rfl, ?_⟩
        exact done _ _ ⟨c.start, hlast c hc, rfl, rfl⟩
    rintro σ2 H2 ⟨ec, hec, rfl, rfl⟩
    refine ⟨_, rfl, _, rfl, _, ec, 1000000, rfl, ?_⟩
    rw [show (decide (ec ≤ ((st : Nat) : Int)) && decide (((st : Nat) : Int) ≤ 1000000)) = true by rw [decide_eq_true hec, decide_eq_true (by omega)]; rfl]
    refine ⟨_, rfl, iteF ?_⟩
    refine ⟨_, rfl, _, 1, 60, rfl, ?_⟩
    rw [show (decide ((1 : Int) ≤ ((pc : Nat) : Int)) && decide (((pc : Nat) : Int) ≤ 60)) = true by rw [decide_eq_true (by omega), decide_eq_true (by omega)]; rfl]
    refine ⟨_, rfl, iteF ?_⟩
    refine ⟨_, rfl, a, _, rfl, .inr (SqT.of t1), rfl, _, rfl, ?_⟩
    rw [hts]
    by_cases h10 : S.2.length = 10
    · rw [h10]
      refine iteT ?_
      exact kE .many (by rw [step_join, if_neg hni, if_pos h10]) H2 _ _ (ExtN.same s1) A1.tb ⟨rfl, rfl⟩
    rw [decide_eq_false (by intro z; have := V.int.inj z; exact h10 (by omega))]
    refine iteF ?_
    -- the cars, and this one
    refine ⟨_, rfl, _, rfl, _, rfl, _, rfl, by show 3 ≤ sizeLine; decide, fun t ht => ⟨by show 1 ≤ sizeLine; decide, fun u hu2 => ?_⟩⟩
    have a1 := sameNew ht (.tup [V.str n, V.int ((st : Nat) : Int), V.int ((pc : Nat) : Int)])
    have a2 := sameNew hu2 (.tup [V.ref t])
    have a12 := a1.trans a2
    have sok : StOk (S.1, S.2 ++ [newC n st pc]) := ⟨A0.ok.so, join_ok A0.ok.co (newC_ok hn hs p1 p2) hni h10⟩
    have er : stepO S (.join n st pc) = .inr ((S.1, S.2 ++ [newC n st pc]), .tick (arrL (S.1, S.2 ++ [newC n st pc]) n)) := by rw [step_join, if_neg hni, if_neg h10]
    have hmem : n ∈ names (S.2 ++ [newC n st pc]) := by rw [names_app]; exact List.mem_append_right _ List.mem_cons_self
    have fin : ∀ (q : Addr) (H7 : Hp), Same H2 H7 → CarsAt H7 q (S.2 ++ [newC n st pc]) → tTup (tCons (tVar 0) (tCons (tVar 6) (tCons (tDGet (tCall (spArrs CR T) [] L2.E0 (tCons (tVar 0) (tCons (tVar 6) tNil))) (tVar 2)) tNil))) [some (.ref p), some (.ref a), some (.str n), some (.int ((st : Nat) : Int)), some (.int ((pc : Nat) : Int)), some (.int ec), some (.ref q)] H7 Q := by
      intro q H7 s7 ct
      have A7 := A1.same s7
      refine ⟨_, rfl, _, rfl, _, rfl, _, rfl, p, q, (S.1, S.2 ++ [newC n st pc]), rfl, A7.rd, ct, sok, A7.tb, fun H8 d e8 T8 n8 hd => ⟨_, rfl, d, _, rfl, gS hd (arrK_get sok.co.nd hmem), by show 3 ≤ sizeLine; decide, fun t8 ht8 => ?_⟩⟩
      have s9 := sameNew ht8 (.tup [V.ref p, V.ref q, V.int (arrL (S.1, S.2 ++ [newC n st pc]) n)])
      have e9 := e8.trans (ExtN.same s9)
      exact k _ _ er _ t8 p q _ ((ExtN.same (s1.trans s7)).trans e9) (T8.ext s9) upd_same (A7.rd.ext e9) (ct.ext e9) rfl
    refine ⟨a, u, _, _, rfl, rfl, SqT.of (a12 _ _ t1), SqT.of upd_same, Nat.le_trans (m := 1000) (by rw [hts]; show S.2.length + 1 ≤ 1000; omega) (by decide), fun nil => ?_, fun _ z => (nomatch z), fun ne _ q hq => ?_⟩
    · have ts0 : ts = [] := by cases ts with | nil => rfl | cons _ _ => cases nil
      refine fin u _ a12 (snocC_at (c := newC n st pc) t2 (fun i t c e1 e2 => a12 _ _ (t3 i t c e1 e2)) (a2 _ _ upd_same) ?_)
      rw [upd_same, ts0]
      rfl
    · have a3 := sameNew hq (.tup (ts.map V.ref ++ [V.ref t]))
      have a13 := a12.trans a3
      exact fin q _ a13 (snocC_at (c := newC n st pc) t2 (fun i t c e1 e2 => a13 _ _ (t3 i t c e1 e2)) (a3 _ _ (a2 _ _ upd_same)) upd_same)
/-! ### _remove -/
def spRemove (CR CNm CMy CU : Addr) (T : List (Addr × Str)) : Sp := fun vs H Q E => ∃ (p a : Addr) (S : St2) (n : Str), vs = [.ref p, .ref a, .str n] ∧ AtS CR T H p a S ∧ StepR CR CNm CMy CU T H S (.rem n) Q E
def nRemove : List Str := ["road", "cars", "name", "left", "car"]
theorem scRemove : FnScope nRemove ["road", "cars", "name"] (defScope sRemove) := ⟨rfl, rfl, rfl, by decide +kernel, rfl, by decide +kernel, by decide +kernel⟩
theorem less_sub {cars : List Car} {n m : Str} (h : m ∈ names (lessC cars n)) : m ∈ names cars := by
  obtain ⟨c, hc, rfl⟩ := List.mem_map.mp h
  exact List.mem_map_of_mem (List.mem_filter.mp hc).1
theorem ok_remove {f fK fA fC CR CNm CMy CU : Addr} {fd dK dA dC : FuncData} {T : List (Addr × Str)} (F : Fun K "_remove" "_remove" sRemove f fd) (M : Mg mg)
    (BK : Fb K mg "check_known" sCheckKnown ["cars", "name"] fK dK) (GK : FnOk P w K mg base (L2.CX P w) 3 fK dK ["cars", "name"] (spKnownX CU))
    (BA : Fb K mg "_arrivals" sArrivals ["road", "cars"] fA dA) (GA : FnOk P w K mg base CX0 7 fA dA ["road", "cars"] (spArrs CR T))
    (BC : Fb K mg "_changes" sChanges ["before", "after"] fC dC) (GC : FnOk P w K mg base CX0 1 fC dC ["before", "after"] spChanges) : FnOk P w K mg base (L2.CX P w) 8 f fd ["road", "cars", "name"] (spRemove CR CNm CMy CU T) := by
  refine F.okX scRemove (fun vs H Q E h => ?_) (fun cdv A outer s H vs Q E hr h => ?_)
  · obtain ⟨p, a, S, n, rfl, _⟩ := h
    rfl
  · obtain ⟨p, a, S, n, rfl, A0, kE, k⟩ := h
    have nd := scRemove.nd
    have hr1 : Room 1 (A.deeper (PyProof.Rows.envOfC "_remove" (defScope sRemove) s.heap.objs.size f cdv)) := hr.mono (by decide)
    have hr3 : Room 3 (A.deeper (PyProof.Rows.envOfC "_remove" (defScope sRemove) s.heap.objs.size f cdv)) := hr.mono (by decide)
    refine ⟨_, pss_cons (ps_expr (pe_call GK hr3 (by rfl) BK.at_ BK.fn.kp BK.bd .nil (passes_call (takes_of rfl rfl rfl rfl) fun _ _ _ _ h => h) (pa_cons (pv 1) (pa_cons (pv 2) pa_nil))))
      (pss_cons (ps_set (i := 3) nd rfl (.inl rfl) (pe_callTy call_tuple_of (by rfl) M.tuple boot_tTuple (pa_cons (pe_lc (own := [("car", 4)]) (g := gName 4) (tt := tTest (tOp rNe (tOp (rIxT K) (tVar 4) (tC (.int 0))) (tVar 2))) (te := tVar 4) (by rfl) nd (pi_tup (pv 1)) (blkOk_by (N := nRemove) (sc := defScope sRemove) (by decide +kernel))
          (fun _ _ _ _ _ => pg_name (i := 4) nd rfl (Or.inl rfl)) (fun _ _ _ _ _ => pts_one (pt_cmpR op_ne (pe_ix (r := rIxT K) ix_tup (pv 4) pe_int (fun _ _ => rfl)) (pv 2) (nomark _))) (fun _ _ _ _ _ => pv 4)) pa_nil)))
      (pss_one (ps_ret (pe_tup (pa_cons (pv 0) (pa_cons (pv 3) (pa_cons (pe_call GC hr1 (by rfl) BC.at_ BC.fn.kp BC.bd .nil pass0 (pa_cons (pe_call GA hr (by rfl) BA.at_ BA.fn.kp BA.bd .nil pass0 (pa_cons (pv 0) (pa_cons (pv 1) pa_nil))) (pa_cons (pe_call GA hr (by rfl) BA.at_ BA.fn.kp BA.bd .nil pass0 (pa_cons (pv 0) (pa_cons (pv 3) pa_nil))) pa_nil))) pa_nil))))))), ?_⟩
    refine ⟨_, rfl, _, rfl, a, S.2, n, rfl, A0.ct, A0.ok.co, fun hin H1 s1 => ?_, fun hni H' d fs s' hd hf => ?_⟩
    rotate_left
    · exact kE (.car n) (by rw [step_rem, if_neg hni]) H' _ _ (ExtN.same s') (A0.tb.ext s') ⟨rfl, d, fs, rfl, hd, hf⟩
    have A1 := A0.same s1
    have er : stepO S (.rem n) = .inr ((S.1, lessC S.2 n), chgX S (S.1, lessC S.2 n)) := by rw [step_rem, if_pos hin]
    have sok : StOk (S.1, lessC S.2 n) := ⟨A0.ok.so, less_ok A0.ok.co n⟩
    have few := A0.ok.co.few
    obtain ⟨ts, h1, h2, h3⟩ := id A1.ct
    have hl : (ts.map V.ref).length = S.2.length := by rw [List.length_map, h2]
    refine ⟨_, rfl, a, rfl, ⟨_, SqT.of h1⟩, fun D hD => ?_⟩
    refine lc_it walk_tup (fun i H2 => Same H1 H2 ∧ ∃ us : List Addr, H2 D = some (.lst (us.map V.ref)) ∧ us.length = (lessC (S.2.take i) n).length ∧ ∀ (q : Nat) (t : Addr) (c : Car), us[q]? = some t → (lessC (S.2.take i) n)[q]? = some c → H1 t = some (.tup c.vs))
      ⟨sameNew hD _, [], upd_same, rfl, fun q t c e => by simp at e⟩ (fun i H2 _ ⟨k1, _⟩ => SqT.of (k1 _ _ h1)) ?_ ?_
    · rintro i y Hz H2 hi ⟨k1, us, u1, u2, u3⟩ ⟨e, hy⟩
      subst e
      obtain ⟨t, ht, rfl⟩ : ∃ t, ts[i]? = some t ∧ y = V.ref t := by
        rw [List.getElem?_map] at hy
        obtain ⟨t, z1, z2⟩ := Option.map_eq_some_iff.mp hy
        exact ⟨t, z1, z2.symm⟩
      rw [hl] at hi
      obtain ⟨c, hc⟩ : ∃ c, S.2[i]? = some c := ⟨_, List.getElem?_eq_getElem hi⟩
      have htv := h3 i t c ht hc
      refine ⟨rfl, ?_⟩
      refine ⟨_, rfl, t, _, ((0 : Nat) : Int), .str c.name, rfl, rfl, SqT.of (k1 _ _ htv), atI_nat rfl, _, rfl, rfl, _, rfl, ?_⟩
      have e1 : lessC (S.2.take (i + 1)) n = lessC (S.2.take i) n ++ (if c.name = n then [] else [c]) := by
        unfold lessC
        rw [tk1 hc, List.filter_append]
        by_cases h : c.name = n <;> simp [h]
      have hul : (lessC (S.2.take i) n).length ≤ 10 := by
        have := List.length_filter_le (fun c : Car => decide (c.name ≠ n)) (S.2.take i)
        rw [List.length_take] at this
        unfold lessC
        omega
      rw [e1]
      by_cases h : c.name = n
      · rw [show (!decide (V.str c.name = V.str n)) = false by simp [h], if_pos h, List.append_nil]
        exact iteF ⟨k1, us, u1, u2, u3⟩
      · rw [show (!decide (V.str c.name = V.str n)) = true by simp [h], if_neg h]
        refine iteT ⟨_, rfl, _, u1, by rw [List.length_map, u2]; exact small1000 (by omega), fun b o e => by rw [upd_ne (ne_of_none e hD)]; exact k1 _ _ e, us ++ [t], by rw [upd_same, List.map_append]; rfl, by rw [List.length_append, List.length_append, u2]; rfl, fun q t' c' e1 e2 => ?_⟩
        rcases snoc_get e1 with e1 | ⟨hq, rfl⟩
        · have hql := (List.getElem?_eq_some_iff.mp e1).1
          rw [List.getElem?_append_left (by omega)] at e2
          exact u3 q t' c' e1 e2
        · rw [List.getElem?_append_right (by omega), hq, u2, Nat.sub_self] at e2
          have : c = c' := by simpa using e2
          rw [← this]
          exact htv
    rintro H2 ⟨k1, us, u1, u2, u3⟩
    rw [hl, List.take_length] at u2 u3
    refine ⟨D, _, rfl, .inl ⟨SqL.of u1, fun b hb => ?_⟩⟩
    have s3 := sameNew hb (.tup (us.map V.ref))
    have s13 := k1.trans s3
    have ctb : CarsAt (upd H2 b (.tup (us.map V.ref))) b (lessC S.2 n) := ⟨us, upd_same, u2, fun q t c e1 e2 => s13 _ _ (u3 q t c e1 e2)⟩
    have A3 := A1.same s13
    generalize upd H2 b (.tup (us.map V.ref)) = H3 at s3 s13 ctb A3
    refine ⟨_, rfl, _, rfl, _, rfl, _, rfl, p, a, S, rfl, A3.rd, A3.ct, A3.ok, A3.tb, fun H4 d4 e4 T4 n4 hd4 => ?_⟩
    refine ⟨_, rfl, _, rfl, p, b, (S.1, lessC S.2 n), rfl, A3.rd.ext e4, ctb.ext e4, sok, T4, fun H5 d5 e5 T5 n5 hd5 => ?_⟩
    have hd45 := e5 _ _ hd4 (fun _ z => nomatch z)
    refine ⟨d4, d5, S, (S.1, lessC S.2 n), rfl, hd45, hd5, n5.ne hd4 (fun _ z => nomatch z), fun m hm => less_sub hm, A0.ok.co.nd, sok.co.nd, sok.co.few, fun H6 d6 s6 nd6 hp6 => ⟨by show 3 ≤ sizeLine; decide, fun t8 ht8 => ?_⟩⟩
    have s9 := sameNew ht8 (.tup [V.ref p, V.ref b, V.ref d6])
    have e39 := e4.trans (e5.trans (ExtN.same (s6.trans s9)))
    exact k _ _ er _ t8 p b _ ((ExtN.same (s1.trans s13)).trans e39) (T5.ext (s6.trans s9)) upd_same (A3.rd.ext e39) (ctb.ext e39) ⟨d6, rfl, hp6.ext (ExtN.same s9)⟩
end
end Sl

set_option Elab.async false
set_option linter.all false
set_option maxRecDepth 100000
set_option maxHeartbeats 4000000
namespace Sl
open PySem PySem.Spec L2 OwnR LamX
theorem secs_set {H : Hp} {ts : List Addr} {secs : List Sec} {i : Nat} {b : Bool} {v : Addr} (t2 : ts.length = secs.length) (t3 : ∀ (i : Nat) (t : Addr) (s : Sec), ts[i]? = some t → secs[i]? = some s → H t = some (.tup (secV s))) (hv : H v = some (.tup (secV (b, (secs.getD i (b, 1)).2)))) :
    ∀ (j : Nat) (a : Addr) (s : Sec), (ts.set i v)[j]? = some a → (setK secs i b)[j]? = some s → H a = some (.tup (secV s)) := by
  intro j a s e1 e2
  unfold setK at e2
  by_cases e : i = j
  · subst e
    have h1 := (List.getElem?_eq_some_iff.mp e1).1
    have h2 := (List.getElem?_eq_some_iff.mp e2).1
    rw [List.length_set] at h1 h2
    rw [List.getElem?_set_self h1] at e1
    rw [List.getElem?_set_self h2] at e2
    rw [← Option.some.inj e1, ← Option.some.inj e2]
    exact hv
  · rw [List.getElem?_set_ne e] at e1 e2
    exact t3 j a s e1 e2
theorem ixN_nat {n i : Nat} (h : i < n) : ixN n ((i : Nat) : Int) = some i := by
  unfold ixN
  rw [if_pos (by omega)]
  simp [h]
section
variable {P : Program} {w : World} {K : PySem.W.Frag} {mg : Str → Option Value} {base : Heap}
/-! ### _set_kind -/
def spSetK (CR CNm CMy CU : Addr) (T : List (Addr × Str)) : Sp := fun vs H Q E => ∃ (p a : Addr) (S : St2) (i : Nat) (b : Bool), vs = [.ref p, .ref a, .int ((i : Nat) : Int), .str (kindS b)] ∧ AtS CR T H p a S ∧ i < S.1.length ∧ StepR CR CNm CMy CU T H S (.kind i b) Q E
def nSetK : List Str := ["road", "cars", "section", "kind", "sections", "changed"]
theorem scSetK : FnScope nSetK ["road", "cars", "section", "kind"] (defScope sSetKind) := ⟨rfl, rfl, rfl, by decide +kernel, rfl, by decide +kernel, by decide +kernel⟩
theorem ok_setK {f fB fI fP fA fC CR CNm CMy CU pp lp kp : Addr} {fd dB dP dA dC : FuncData} {T : List (Addr × Str)} (F : Fun K "_set_kind" "_set_kind" sSetKind f fd) (M : Mg mg) (RR : RoadT K w mg CR lp kp)
    (BB : Fb K mg "is_number" sIsNumber ["value", "least", "most"] fB dB) (GB : FnOk P w K mg base CX0 1 fB dB ["value", "least", "most"] spIsNumber)
    (MR : Mk K CR fI) (GI : FnR P w K mg base CX0 3 fI (spRInit CR)) (PO : PropOf K CR "sections" pp fP) (bP : Binds K dP ["self"] []) (GP : FnOk P w K mg base CX0 1 fP dP ["self"] (getSp CR "_sections"))
    (BA : Fb K mg "_arrivals" sArrivals ["road", "cars"] fA dA) (GA : FnOk P w K mg base CX0 7 fA dA ["road", "cars"] (spArrs CR T))
    (BC : Fb K mg "_changes" sChanges ["before", "after"] fC dC) (GC : FnOk P w K mg base CX0 1 fC dC ["before", "after"] spChanges) : FnOk P w K mg base (L2.CX P w) 8 f fd ["road", "cars", "section", "kind"] (spSetK CR CNm CMy CU T) := by
  refine F.okX scSetK (fun vs H Q E h => ?_) (fun cdv A outer s H vs Q E hr h => ?_)
  · obtain ⟨p, a, S, i, b, rfl, _⟩ := h
    rfl
  · obtain ⟨p, a, S, i, b, rfl, A0, hi, kE, k⟩ := h
    have nd := scSetK.nd
    have hr1 : Room 1 (A.deeper (PyProof.Rows.envOfC "_set_kind" (defScope sSetKind) s.heap.objs.size f cdv)) := hr.mono (by decide)
    have hr2 : Room 2 (A.deeper (PyProof.Rows.envOfC "_set_kind" (defScope sSetKind) s.heap.objs.size f cdv)) := hr.mono (by decide)
    have hr4 : Room (3 + 1) (A.deeper (PyProof.Rows.envOfC "_set_kind" (defScope sSetKind) s.heap.objs.size f cdv)) := hr.mono (by decide)
    refine ⟨_, pss_cons (ps_if (pt_not (pt_val (pe_call GB hr1 (by rfl) BB.at_ BB.fn.kp BB.bd .nil pass0 (pa_cons (pv 2) (pa_cons pe_int (pa_cons (pe_op op_sub (pe_callB call_len_seq (by rfl) M.len boot_len (pa_cons (pe_prop (pv 0) RR.cl PO GP hr2 bP .nil pass0 rfl) pa_nil)) pe_int) pa_nil)))))) (pss_one ps_never) pss_nil)
      (pss_cons (ps_if (pt_cmpR op_notIn_seq (pv 3) (pe_tup (pa_cons pe_str (pa_cons pe_str pa_nil))) (by rfl)) (pss_one ps_never) pss_nil)
      (pss_cons (ps_set (i := 4) nd rfl (.inl rfl) (pe_callTy call_list_of (by rfl) M.list (by decide +kernel) (pa_cons (pe_prop (pv 0) RR.cl PO GP hr2 bP .nil pass0 rfl) pa_nil)))
      (pss_cons (ps_asg (pe_tup (pa_cons (pv 3) (pa_cons (pe_ix (r := rIxT K) ix_tup (pe_ix (r := rIxL K) ix_list (pv 4) (pv 2) (fun _ _ => rfl)) pe_int (fun _ _ => rfl)) pa_nil))) (pg_sub (pv 4) (pv 2) set_list))
      (pss_cons (ps_set (i := 5) nd rfl (.inl rfl) (pe_makeLS MR GI hr4 pass0 (pe_glob (v := .ref CR) (by rfl) RR.mgC rfl) (pv 4)))
      (pss_one (ps_ret (pe_tup (pa_cons (pv 5) (pa_cons (pv 1) (pa_cons (pe_call GC hr1 (by rfl) BC.at_ BC.fn.kp BC.bd .nil pass0 (pa_cons (pe_call GA hr (by rfl) BA.at_ BA.fn.kp BA.bd .nil pass0 (pa_cons (pv 0) (pa_cons (pv 1) pa_nil))) (pa_cons (pe_call GA hr (by rfl) BA.at_ BA.fn.kp BA.bd .nil pass0 (pa_cons (pv 5) (pa_cons (pv 1) pa_nil))) pa_nil))) pa_nil)))))))))), ?_⟩
    obtain ⟨dx, t, u, hp, ⟨ts, t1, t2, t3⟩, hu⟩ := id A0.rd
    have hts : (ts.map V.ref).length = S.1.length := by rw [List.length_map, t2]
    have few := A0.ok.so.few
    have sok : StOk (setK S.1 i b, S.2) := ⟨setK_ok A0.ok.so hi b, A0.ok.co⟩
    -- the section is one, the kind is one
    refine ⟨_, rfl, _, rfl, p, dx, _, rfl, hp, p, dx, _, _, rfl, hp, rf_sections _ _, t, _, rfl, .inr (SqT.of t1), _, _, rfl, rfl, ((i : Nat) : Int), 0, _, rfl, ?_⟩
    rw [hts, show (decide ((0 : Int) ≤ ((i : Nat) : Int)) && decide (((i : Nat) : Int) ≤ ((S.1.length : Nat) : Int) - 1)) = true by rw [decide_eq_true (by omega), decide_eq_true (by omega)]; rfl]
    refine ⟨_, rfl, iteF ?_⟩
    refine ⟨_, rfl, by show 2 ≤ sizeLine; decide, fun q hq => ⟨q, _, rfl, .inr (SqT.of upd_same), rfl, rfl, false, ?_, iteF ?_⟩⟩
    · show V.bl (!inV (.str (kindS b)) _) = V.bl false
      cases b <;> rfl
    have s1 := sameNew hq (.tup [V.str "narrow", V.str "wide"])
    have hp1 := s1 _ _ hp
    have t1' := s1 _ _ t1
    generalize upd H q (.tup [V.str "narrow", V.str "wide"]) = H1 at s1 hp1 t1' ⊢
    -- the sections as a list, one of them changed
    refine ⟨_, rfl, p, dx, _, rfl, hp1, p, dx, _, _, rfl, hp1, rf_sections _ _, t, _, rfl, .inr (SqT.of t1'), fun l hl => ?_⟩
    have s2 := sameNew hl (.lst (ts.map V.ref))
    have s12 := s1.trans s2
    have hl2 : upd H1 l (.lst (ts.map V.ref)) l = some (.lst (ts.map V.ref)) := upd_same
    generalize upd H1 l (.lst (ts.map V.ref)) = H2 at s2 s12 hl2 ⊢
    obtain ⟨tc, htc⟩ : ∃ tc, ts[i]? = some tc := ⟨_, List.getElem?_eq_getElem (by omega)⟩
    obtain ⟨sc, hsc⟩ : ∃ sc, S.1[i]? = some sc := ⟨_, List.getElem?_eq_getElem hi⟩
    have hD : S.1.getD i (b, 1) = sc := by rw [List.getD_eq_getElem?_getD, hsc]; rfl
    refine ⟨_, rfl, _, rfl, _, rfl, l, _, _, .ref tc, rfl, rfl, SqL.of hl2, atI_nat (map_atZ V.ref htc), tc, _, ((1 : Nat) : Int), .int ((sc.2 : Nat) : Int), rfl, rfl, SqT.of (s12 _ _ (t3 i tc sc htc hsc)), atI_nat rfl, by show 2 ≤ sizeLine; decide, fun v hv => ?_⟩
    have s3 := sameNew hv (.tup [V.str (kindS b), V.int ((sc.2 : Nat) : Int)])
    have hl3 := s3 _ _ hl2
    have hv3 : upd H2 v (.tup [V.str (kindS b), V.int ((sc.2 : Nat) : Int)]) v = some (.tup (secV (b, (S.1.getD i (b, 1)).2))) := by rw [hD]; exact upd_same
    have s03 : ∀ x o, H x = some o → upd H2 v (.tup [V.str (kindS b), V.int ((sc.2 : Nat) : Int)]) x = some o := fun x o e => s3 _ _ (s12 _ _ e)
    have nl : ∀ x o, H x = some o → x ≠ l := fun x o e => ne_of_none (s1 _ _ e) hl
    generalize upd H2 v (.tup [V.str (kindS b), V.int ((sc.2 : Nat) : Int)]) = H3 at s3 hl3 hv3 s03 ⊢
    refine ⟨_, rfl, _, rfl, l, _, _, i, rfl, rfl, hl3, ixN_nat (by rw [hts]; exact hi), ?_⟩
    have nvl : v ≠ l := ne_of hv3 hl3 (by intro z; cases z)
    have s04 : Same H (upd H3 l (.lst ((ts.map V.ref).set i (.ref v)))) := fun x o e => by rw [upd_ne (nl _ _ e)]; exact s03 _ _ e
    have hv4 : upd H3 l (.lst ((ts.map V.ref).set i (.ref v))) v = some (.tup (secV (b, (S.1.getD i (b, 1)).2))) := by rw [upd_ne nvl]; exact hv3
    have hl4 : upd H3 l (.lst ((ts.map V.ref).set i (.ref v))) l = some (.lst ((ts.set i v).map V.ref)) := by rw [upd_same, List.map_set]
    generalize upd H3 l (.lst ((ts.map V.ref).set i (.ref v))) = H4 at s04 hv4 hl4 ⊢
    have A4 := A0.same s04
    have g4 := secs_set (i := i) (b := b) t2 (fun j tj sj e1 e2 => s04 _ _ (t3 j tj sj e1 e2)) hv4
    have l4 : (ts.set i v).length = (setK S.1 i b).length := by rw [setK_len, List.length_set, t2]
    -- the new road
    refine ⟨rfl, _, rfl, l, _, rfl, .inr (SqL.of hl4), fun x dx2 hx hdx ne => ?_⟩
    refine ⟨[.ref x], (ts.set i v).map V.ref, rfl, rfl, by rw [List.length_map, List.length_set, t2]; exact Nat.le_of_lt (small1000 (by omega)), fun t7 ht7 => ?_⟩
    have hxt : x ≠ t7 := fun z => by
      rw [← z, upd_same] at ht7
      cases ht7
    have old : ∀ b o, H4 b = some o → (upd (upd (upd H4 dx2 (.own x)) x (.ins CR dx2 [])) t7 (.tup ((ts.set i v).map V.ref))) b = some o := fun b o e => by
      have e2 : (upd (upd H4 dx2 (.own x)) x (.ins CR dx2 [])) b = some o := by
        rw [upd_ne (ne_of_none e hx), upd_ne (ne_of_none e hdx)]
        exact e
      rw [upd_ne (ne_of_none e2 ht7)]
      exact e2
    refine ⟨x, dx2, t7, setK S.1 i b, rfl, by rw [upd_ne hxt, upd_same], ⟨ts.set i v, upd_same, l4, fun j a s e1 e2 => old _ _ (g4 j a s e1 e2)⟩, sok.so, fun H5 us kp hX hus => ⟨rfl, ?_⟩⟩
    have s45 : Same H4 H5 := fun b o e => kp b o (old _ _ e) (ne_of_none e hx)
    have rd5 : RoadAt CR H5 x (setK S.1 i b) := ⟨dx2, t7, us, hX, ⟨ts.set i v, kp _ _ upd_same hxt.symm, l4, fun j a s e1 e2 => s45 _ _ (g4 j a s e1 e2)⟩, hus⟩
    have A5 := A4.same s45
    refine ⟨_, rfl, _, rfl, _, rfl, _, rfl, p, a, S, rfl, A5.rd, A5.ct, A5.ok, A5.tb, fun H6 d6 e6 T6 n6 hd6 => ?_⟩
    refine ⟨_, rfl, _, rfl, x, a, (setK S.1 i b, S.2), rfl, rd5.ext e6, A5.ct.ext e6, sok, T6, fun H7 d7 e7 T7 n7 hd7 => ?_⟩
    have hd67 := e7 _ _ hd6 (fun _ z => nomatch z)
    refine ⟨d6, d7, S, (setK S.1 i b, S.2), rfl, hd67, hd7, n7.ne hd6 (fun _ z => nomatch z), fun m hm => hm, A0.ok.co.nd, sok.co.nd, sok.co.few, fun H8 d8 s8 nd8 hp8 => ⟨by show 3 ≤ sizeLine; decide, fun t8 ht8 => ?_⟩⟩
    have s9 := sameNew ht8 (.tup [V.ref x, V.ref a, V.ref d8])
    have e59 := e6.trans (e7.trans (ExtN.same (s8.trans s9)))
    exact k _ _ rfl _ t8 x a _ ((ExtN.same (s04.trans s45)).trans e59) (T7.ext (s8.trans s9)) upd_same (rd5.ext e59) (A5.ct.ext e59) ⟨d8, rfl, hp8.ext (ExtN.same s9)⟩
end
end Sl

set_option Elab.async false
set_option linter.all false
set_option maxRecDepth 100000
set_option maxHeartbeats 2000000
/-! A local name that holds one of several defs, called with a starred argument; .get on a dict of the module. -/
namespace OwnR
open PySem PySem.Spec PyProof.Rows L2
/-- the defs that a name may hold, each with what it is asked -/
def tCallVs (i : Nat) (fs : List (Addr × Sp)) (E : XK) (t : TA) : TE := fun σ H Q => ∃ q ∈ fs, σ[i]? = some (some (.ref q.1)) ∧ t σ H fun vs H1 => q.2 vs H1 Q E
section
variable {X : Cx} {CX : CXT} {k i : Nat} {E : XK} {x : Str} {e o : Expr} {es : List Expr} {t : TA} {p pos apos : Pos} {td ty : TE}
theorem pe_callVs {fs : List (Addr × Sp)} (F : ∀ q ∈ fs, FnR X.prog X.w X.K X.mg X.base CX k q.1 q.2 ∧ PySem.W.keepIn X.K (.ref q.1) = true) (hr : Room k X.A) (hx : Passes CX X E) (hN : X.N[i]? = some x) (hv : Vis X.env.scope x) (ha : PA X (e :: es) t)
    (hd : (x == ("__debug__" : Str)) = false := by decide) (hcd : (x == ("__classdict__" : Str)) = false := by decide)
    (he : starEach (e :: es) X.env = (false, eval e X.env) :: starEach es X.env := by rfl) (hst : (backTo pos (starEach es X.env)).any (·.1) = true := by rfl) : PE X (.Call (.Name x p) (e :: es) [] pos) (tCallVs i fs E t) := by
  refine ⟨fun pins s σ H Q I ⟨q, hq, hs, h⟩ => ?_⟩
  obtain ⟨Fq, hk⟩ := F q hq
  refine wpAny_Call_Name_kw (thn ((pe_var (pos := p) (i := i) hN hv hd hcd).run pins s σ H (fun v H1 => v = .ref q.1 ∧ H1 = H) I ⟨.ref q.1, hs, rfl, rfl⟩) fun u s1 ⟨v, H1, I1, r1, ev, eH⟩ => ?_)
  subst ev
  rw [eH] at I1
  cases r1
  refine PySem.W.callWith_S2 (h₀ := X.base) I.ok.mod.kin hk (thn (ha.run pos pins s1 σ H _ I1 h) fun us s2 ⟨vs, H2, I2, r, q2⟩ => ⟨I2.kIn, ?_⟩) he hst
  exact wpAny_call (run_fnR Fq hr hx I2 r q2)
/-- d.get(k), d a dict of the module -/
def tKGet (K : PySem.W.Frag) (w : World) (td ty : TE) : TE := fun σ H Q => td σ H fun x H1 => ∃ a, x = .ref a ∧ (a == sysModules) = false ∧ (∃ z v, KDct K w a z v) ∧ ty σ H1 fun y H2 => ∃ z v, y = .str z ∧ KDct K w a z v ∧ Q v H2
theorem pe_kget {cpos : Pos} (ho : PE X o td) (he : PE X e ty) (m : M1 X o "get" apos e cpos) : PE X (.Call (.Attribute o "get" apos) [e] [] cpos) (tKGet X.K X.w td ty) := by
  refine ⟨fun pins s σ H Q I hh => ?_⟩
  refine wpAny_Call_method m.base m.few m.line PySem.F.plainAttrs_dict PySem.F.slot_dict_get PySem.F.type_dict_get (thn (ho.run pins s σ H _ I hh) fun u s1 ⟨x, H1, I1, rx, a, ex, hp, ⟨z0, v0, es, n, u0, hl, hk, _, _⟩, q1⟩ => ?_)
  subst ex
  obtain rfl : u = Value.ref a := rx
  have hm := PySem.W.mapOf_K (prog := X.prog) (w := X.w) I1.kIn hl hk
  refine ⟨hm.typeIs, fun b eb => ?_, ?_⟩
  · cases eb
    exact ⟨_, I1.kIn _ _ hl, rfl⟩
  rw [m.trees]
  refine Calls.callWith_builtin rfl (Calls.evalArgs_plain (Calls.spliced_cons (thn (he.run pins s1 σ H1 _ I1 q1) fun iv s2 ⟨y, H2, I2, ry, z, v, ey, ⟨es2, n2, u2, hl2, hk2, e2, r2⟩, q2⟩ => Calls.spliced_nil ?_)))
  subst ey
  obtain ⟨t, rfl⟩ := ry
  have hm2 := PySem.W.mapOf_K (prog := X.prog) (w := X.w) I2.kIn hl2 hk2
  refine call_meetsIn PySem.F.slot_dict_get hm2.typeIs PySem.F.entry_dict_get (PySem.F.args_dict_get_2 _ _) (meets_dict_get (PySem.strKind X.prog X.w) a (strKind_is X.prog X.w z t) hp) ⟨_, hm2, ?_⟩
  rw [PySem.W.find_K hl2 e2]
  exact ⟨v, H2, I2.tok _, r2, q2⟩
end
end OwnR

set_option Elab.async false
set_option linter.all false
set_option maxRecDepth 100000
set_option maxHeartbeats 4000000
namespace Sl
open PySem PySem.Spec L2 OwnR LamX
/-! ### an error of an own class with one field (rows of k07/K7) -/
def spEInit (C : Addr) (fld : Str) : Sp := fun vs H Q _ => ∃ (a : Addr) (v : V), vs = [.ref a, v] ∧ H a = some (exo a C none) ∧ ∀ dx, H dx = none → dx ≠ a → Q .non (upd (upd H dx (exd dx [(fld, v)])) a (exo a C (some dx)))
structure ErrF (P : Program) (w : World) (K : PySem.W.Frag) (mg : Str → Option Value) (base : Heap) (x fld : Str) (C : Addr) : Prop where
  T : OexC K C
  g : mg x = some (.ref C)
  init : ∃ fI fd ps, PySem.W.findIn K (.ref C) "__init__" = some (some (.ref fI)) ∧ PySem.W.typeIn K (.ref fI) = some (.type "function") ∧ Binds K fd ps [] ∧ FnOk P w K mg base CX0 1 fI fd ps (spEInit C fld)
def FldE (C : Addr) (fld : Str) (v : V) (H : Hp) (E : XK) : Prop := ∀ H' d fs, Same H H' → H' d = some (.xd fs) → fs.lookup fld = some v → E (.ref C) (some d) H'
theorem fld_mk {C : Addr} {fld : Str} {v : V} {H H1 : Hp} {E : XK} (k : FldE C fld v H E) (s : Same H H1) : ∀ a, H1 a = none → spEInit C fld (.ref a :: ([v] ++ [])) (upd H1 a (exo a C none))
    (fun r H2 => r = .non ∧ ∃ (d : Addr) (fs : List (Str × V)), H2 a = some (exo a C (some d)) ∧ H2 d = some (exd d fs) ∧ H1 d = none ∧ E (.ref C) (some d) (upd (del H2 a) d (.xd fs))) (fun _ _ _ => False) := by
  intro a ha
  refine ⟨a, v, rfl, upd_same, fun dx hdx ne => ⟨rfl, dx, [(fld, v)], upd_same, ?_, ?_, ?_⟩⟩
  · rw [upd_ne ne, upd_same]
  · rw [upd_ne ne] at hdx
    exact hdx
  · have hdx1 : H1 dx = none := by rw [upd_ne ne] at hdx; exact hdx
    refine k _ dx [(fld, v)] (fun b o e => ?_) upd_same (by simp [List.lookup])
    have nb : b ≠ dx := fun z => by rw [z] at e; have := s _ _ e; rw [hdx1] at this; cases this
    have na : b ≠ a := fun z => by rw [z] at e; have := s _ _ e; rw [ha] at this; cases this
    rw [upd_ne nb, del_ne na, upd_ne na, upd_ne nb, upd_ne na]
    exact s _ _ e
section
variable {P : Program} {w : World} {K : PySem.W.Frag} {mg : Str → Option Value} {base : Heap}
def nOInit : List Str := ["self", "index"]
theorem scOInit : FnScope nOInit ["self", "index"] (defScope sInvalidOperationInit) := ⟨rfl, rfl, rfl, by decide +kernel, rfl, by decide +kernel, by decide +kernel⟩
theorem ok_oInit {f C : Addr} {fd : FuncData} (F : Fun K "__init__" "InvalidOperation.__init__" sInvalidOperationInit f fd) (T : OexC K C) (hno : PySem.W.findIn K (.ref C) "index" = some none) : FnOk P w K mg base CX0 1 f fd ["self", "index"] (spEInit C "index") := by
  refine F.ok scOInit (fun vs H Q E h => ?_) (fun cdv A outer s H vs Q E hr h => ?_)
  · obtain ⟨a, v, rfl, _⟩ := h
    rfl
  · obtain ⟨a, v, rfl, ha, k⟩ := h
    have nd := scOInit.nd
    refine ⟨_, pss_one (ps_ost (pv 0) (pv 1)), ?_⟩
    exact ⟨_, rfl, _, rfl, a, C, rfl, T, hno, .inl ⟨ha, fun dx h1 h2 => k dx h1 h2⟩⟩
/-! ### _is_operation -/
def opN : List (Str × Nat) := [("join", 3), ("remove", 1), ("set_kind", 2)]
/-- the dicts of the module that tell of operations -/
structure OpT (K : PySem.W.Frag) (w : World) (mg : Str → Option Value) (ap gp fJ fR fS : Addr) : Prop where
  mA : mg "ACTIONS" = some (.ref ap)
  mG : mg "ARGUMENTS" = some (.ref gp)
  aJ : KDct K w ap "join" (.ref fJ)
  aR : KDct K w ap "remove" (.ref fR)
  aS : KDct K w ap "set_kind" (.ref fS)
  gJ : KDct K w gp "join" (.int 3)
  gR : KDct K w gp "remove" (.int 1)
  gS : KDct K w gp "set_kind" (.int 2)
  ng : (gp == sysModules) = false
def spIsOp : Sp := fun vs H Q _ => ∃ (t : Addr) (nm : Str) (m : Nat) (rest : List V), vs = [.ref t] ∧ H t = some (.tup (.str nm :: rest)) ∧ (nm, m) ∈ opN ∧ rest.length ≤ 10 ∧ Q (.bl (decide (rest.length = m))) H
theorem scIsOp : FnScope ["value"] ["value"] (defScope sIsOperation) := ⟨rfl, rfl, rfl, by decide +kernel, rfl, by decide +kernel, by decide +kernel⟩
theorem OpT.arg {ap gp fJ fR fS : Addr} (O : OpT K w mg ap gp fJ fR fS) {nm : Str} {m : Nat} (h : (nm, m) ∈ opN) : KDct K w gp nm (.int ((m : Nat) : Int)) := by
  unfold opN at h
  rcases List.mem_cons.mp h with e | h
  · cases e; exact O.gJ
  rcases List.mem_cons.mp h with e | h
  · cases e; exact O.gR
  · cases List.mem_singleton.mp h; exact O.gS
theorem ok_isOp {f ap gp fJ fR fS : Addr} {fd : FuncData} (F : Fun K "_is_operation" "_is_operation" sIsOperation f fd) (M : Mg mg) (O : OpT K w mg ap gp fJ fR fS) : FnOk P w K mg base CX0 1 f fd ["value"] spIsOp := by
  refine F.ok scIsOp (fun vs H Q E h => ?_) (fun cdv A outer s H vs Q E hr h => ?_)
  · obtain ⟨t, nm, m, rest, rfl, _⟩ := h
    rfl
  · obtain ⟨t, nm, m, rest, rfl, ht, hm, h10, k⟩ := h
    have nd := scIsOp.nd
    refine ⟨_, pss_cons (ps_if (PW.pt (pw_or (pt_not (pt_val (pe_callB call_isi (by rfl) M.isinstance boot_isinstance (pa_cons (pv 0) (pa_cons (pe_bltn (v := .ty "tuple") (by rfl) M.tuple boot_tTuple rfl) pa_nil)))))
        (pw_or (pt_cmpR op_eq (pe_callB call_len_seq (by rfl) M.len boot_len (pa_cons (pv 0) pa_nil)) pe_int (nomark _))
        (pw_or1 (pt_not (pt_val (pe_callB call_isi (by rfl) M.isinstance boot_isinstance (pa_cons (pe_ix (r := rIxT K) ix_tup (pv 0) pe_int (fun _ _ => rfl)) (pa_cons (pe_bltn (v := .ty "str") (by rfl) M.str boot_tStr rfl) pa_nil))))))))) (pss_one (ps_ret pe_bl)) pss_nil)
      (pss_one (ps_ret (pe_cmpR op_eq (pe_kget (pe_glob (v := .ref gp) (by rfl) O.mG rfl) (pe_ix (r := rIxT K) ix_tup (pv 0) pe_int (fun _ _ => rfl)) ⟨rfl, rfl, rfl, rfl⟩) (pe_op op_sub (pe_callB call_len_seq (by rfl) M.len boot_len (pa_cons (pv 0) pa_nil)) pe_int) (nomark _)))), ?_⟩
    have key := O.arg hm
    refine ⟨_, rfl, _, _, _, _, true, rfl, .ty _, .base (.tup ht), kit_ty (by decide +kernel), true, rfl, iteF ?_⟩
    refine ⟨_, rfl, t, _, rfl, .inr (SqT.of ht), rfl, _, rfl, ?_⟩
    rw [decide_eq_false (by intro z; have := V.int.inj z; rw [List.length_cons] at this; omega)]
    refine iteF ?_
    refine ⟨_, rfl, t, _, ((0 : Nat) : Int), .str nm, rfl, rfl, SqT.of ht, atI_nat rfl, _, _, _, _, true, rfl, .ty _, .base (.str nm), kit_ty (by decide +kernel), true, rfl, iteF ?_⟩
    refine ⟨gp, rfl, O.ng, ⟨_, _, key⟩, _, rfl, t, _, ((0 : Nat) : Int), .str nm, rfl, rfl, SqT.of ht, atI_nat rfl, nm, _, rfl, key, _, rfl, t, _, rfl, .inr (SqT.of ht), _, _, rfl, rfl, ?_⟩
    dsimp only [rEq]
    refine ⟨rfl, ?_⟩
    rw [show decide (V.int ((m : Nat) : Int) = V.int ((((V.str nm :: rest).length : Nat) : Int) - 1)) = decide (rest.length = m) by
      rw [decide_eq_decide, List.length_cons]
      exact ⟨fun z => by have := V.int.inj z; omega, fun z => by congr 1; omega⟩]
    exact k
end
end Sl

set_option Elab.async false
set_option linter.all false
set_option maxRecDepth 100000
set_option maxHeartbeats 4000000
namespace Sl
open PySem PySem.Spec L2 OwnR LamX
/-! ### states: what is there, and the operation that led to it -/
abbrev LS := St2 × Option Op
def OpVAt (H : Hp) (v : V) : Option Op → Prop
  | none => v = .non
  | some o => ∃ b, v = .ref b ∧ H b = some (.tup o.vs)
def StAt (CR : Addr) (H : Hp) (t : Addr) (s : LS) : Prop := ∃ (p a : Addr) (o : V), H t = some (.tup [.ref p, .ref a, o]) ∧ RoadAt CR H p s.1.1 ∧ CarsAt H a s.1.2 ∧ OpVAt H o s.2
def StsAt (CR : Addr) (H : Hp) (l : Addr) (ss : List LS) : Prop := ∃ ts : List Addr, H l = some (.lst (ts.map V.ref)) ∧ ts.length = ss.length ∧ ∀ (i : Nat) (t : Addr) (s : LS), ts[i]? = some t → ss[i]? = some s → StAt CR H t s
def RssAt (H : Hp) (l : Addr) (rs : List Rs) : Prop := ∃ vs : List V, H l = some (.lst vs) ∧ vs.length = rs.length ∧ ∀ (i : Nat) (v : V) (r : Rs), vs[i]? = some v → rs[i]? = some r → RsAt H v r
/-- all but lists and tables stays -/
def NL (H H' : Hp) : Prop := ∀ b o, H b = some o → (∀ xs, o ≠ .lst xs) → (∀ ps, o ≠ .tbl ps) → H' b = some o
theorem NL.of {H H' : Hp} (e : ExtN H H') : NL H H' := fun b o h _ n => e b o h n
theorem NL.put {H : Hp} {a : Addr} {xs : List V} (h : H a = some (.lst xs)) (o : HO) : NL H (upd H a o) := fun b u e n _ => by rw [upd_ne (ne_of e h (n _))]; exact e
theorem NL.tup {H H' : Hp} (k : NL H H') {a : Addr} {xs : List V} (h : H a = some (.tup xs)) : H' a = some (.tup xs) := k _ _ h (fun _ z => nomatch z) (fun _ z => nomatch z)
theorem RoadAt.nl {C : Addr} {H H' : Hp} {p : Addr} {secs : List Sec} (h : RoadAt C H p secs) (k : NL H H') : RoadAt C H' p secs := by
  obtain ⟨dx, t, u, h1, ⟨ts, a1, a2, a3⟩, h3⟩ := h
  exact ⟨dx, t, u, k _ _ h1 (fun _ z => nomatch z) (fun _ z => nomatch z), ⟨ts, k.tup a1, a2, fun i t s e1 e2 => k.tup (a3 i t s e1 e2)⟩, h3⟩
theorem CarsAt.nl {H H' : Hp} {a : Addr} {cars : List Car} (h : CarsAt H a cars) (k : NL H H') : CarsAt H' a cars := by
  obtain ⟨ts, a1, a2, a3⟩ := h
  exact ⟨ts, k.tup a1, a2, fun i t s e1 e2 => k.tup (a3 i t s e1 e2)⟩
theorem OpVAt.nl {H H' : Hp} {v : V} {o : Option Op} (h : OpVAt H v o) (k : NL H H') : OpVAt H' v o := by
  cases o with
  | none => exact h
  | some o =>
    obtain ⟨b, h1, h2⟩ := h
    exact ⟨b, h1, k.tup h2⟩
theorem StAt.nl {CR : Addr} {H H' : Hp} {t : Addr} {s : LS} (h : StAt CR H t s) (k : NL H H') : StAt CR H' t s := by
  obtain ⟨p, a, o, h1, h2, h3, h4⟩ := h
  exact ⟨p, a, o, k.tup h1, h2.nl k, h3.nl k, h4.nl k⟩
theorem RsAt.nl {H H' : Hp} {v : V} {r : Rs} (h : RsAt H v r) (k : NL H H') : RsAt H' v r := by
  cases r with
  | tick i => exact h
  | chg ns g =>
    obtain ⟨d, h1, ts, p1, p2, p3⟩ := h
    exact ⟨d, h1, ts, k _ _ p1 (fun _ z => nomatch z) (fun _ z => nomatch z), p2, fun i t m e1 e2 => k.tup (p3 i t m e1 e2)⟩
theorem StsAt.ext {CR : Addr} {H H' : Hp} {l : Addr} {ss : List LS} (h : StsAt CR H l ss) (e : ExtN H H') : StsAt CR H' l ss := by
  obtain ⟨ts, h1, h2, h3⟩ := h
  exact ⟨ts, ExtN.lst e h1, h2, fun i t s e1 e2 => (h3 i t s e1 e2).nl (NL.of e)⟩
theorem RssAt.ext {H H' : Hp} {l : Addr} {rs : List Rs} (h : RssAt H l rs) (e : ExtN H H') : RssAt H' l rs := by
  obtain ⟨vs, h1, h2, h3⟩ := h
  exact ⟨vs, ExtN.lst e h1, h2, fun i v r e1 e2 => (h3 i v r e1 e2).nl (NL.of e)⟩
theorem StsAt.put {CR : Addr} {H : Hp} {l a : Addr} {ss : List LS} {xs : List V} (h : StsAt CR H l ss) (ha : H a = some (.lst xs)) (n : l ≠ a) (o : HO) : StsAt CR (upd H a o) l ss := by
  obtain ⟨ts, h1, h2, h3⟩ := h
  exact ⟨ts, by rw [upd_ne n]; exact h1, h2, fun i t s e1 e2 => (h3 i t s e1 e2).nl (NL.put ha o)⟩
theorem RssAt.put {H : Hp} {l a : Addr} {rs : List Rs} {xs : List V} (h : RssAt H l rs) (ha : H a = some (.lst xs)) (n : l ≠ a) (o : HO) : RssAt (upd H a o) l rs := by
  obtain ⟨vs, h1, h2, h3⟩ := h
  exact ⟨vs, by rw [upd_ne n]; exact h1, h2, fun i v r e1 e2 => (h3 i v r e1 e2).nl (NL.put ha o)⟩
theorem get_snoc {α : Type} {l : List α} {x y : α} {i : Nat} (h : (l ++ [x])[i]? = some y) : (i < l.length ∧ l[i]? = some y) ∨ (i = l.length ∧ x = y) := by
  rcases Nat.lt_or_ge i l.length with lt | ge
  · rw [List.getElem?_append_left lt] at h
    exact .inl ⟨lt, h⟩
  · rw [List.getElem?_append_right ge] at h
    have hl := (List.getElem?_eq_some_iff.mp h).1
    have : i = l.length := by
      have : i - l.length < 1 := hl
      omega
    subst this
    rw [Nat.sub_self] at h
    exact .inr ⟨rfl, Option.some.inj h⟩
theorem StsAt.snoc {CR : Addr} {H : Hp} {l t : Addr} {ss : List LS} {s : LS} (h : StsAt CR H l ss) (hs : StAt CR H t s) : ∃ xs : List V, H l = some (.lst xs) ∧ xs.length = ss.length ∧ StsAt CR (upd H l (.lst (xs ++ [.ref t]))) l (ss ++ [s]) := by
  obtain ⟨ts, h1, h2, h3⟩ := h
  refine ⟨_, h1, by rw [List.length_map, h2], ts ++ [t], by rw [upd_same, List.map_append]; rfl, by rw [List.length_append, List.length_append, h2]; rfl, fun i u v e1 e2 => ?_⟩
  rcases get_snoc e1 with ⟨l1, e1⟩ | ⟨i1, rfl⟩
  · rcases get_snoc e2 with ⟨_, e2⟩ | ⟨i2, rfl⟩
    · exact (h3 i u v e1 e2).nl (NL.put h1 _)
    · omega
  · rcases get_snoc e2 with ⟨l2, e2⟩ | ⟨_, rfl⟩
    · omega
    · exact hs.nl (NL.put h1 _)
theorem RssAt.snoc {H : Hp} {l : Addr} {rs : List Rs} {r : Rs} {v : V} (h : RssAt H l rs) (hs : RsAt H v r) : ∃ xs : List V, H l = some (.lst xs) ∧ xs.length = rs.length ∧ RssAt (upd H l (.lst (xs ++ [v]))) l (rs ++ [r]) := by
  obtain ⟨vs, h1, h2, h3⟩ := h
  refine ⟨_, h1, h2, vs ++ [v], upd_same, by rw [List.length_append, List.length_append, h2]; rfl, fun i u q e1 e2 => ?_⟩
  rcases get_snoc e1 with ⟨l1, e1⟩ | ⟨i1, rfl⟩
  · rcases get_snoc e2 with ⟨_, e2⟩ | ⟨i2, rfl⟩
    · exact (h3 i u q e1 e2).nl (NL.put h1 _)
    · omega
  · rcases get_snoc e2 with ⟨l2, e2⟩ | ⟨_, rfl⟩
    · omega
    · exact hs.nl (NL.put h1 _)
/-! ### many operations -/
def runO : St2 → List Op → Er ⊕ (List LS × List Rs)
  | _, [] => .inr ([], [])
  | S, o :: r => match stepO S o with
    | .inl e => .inl e
    | .inr (S', v) => match runO S' r with
      | .inl e => .inl e
      | .inr (ls, vs) => .inr ((S', some o) :: ls, v :: vs)
def OpsOk : St2 → List Op → Prop
  | _, [] => True
  | S, o :: r => OpOk S o ∧ ∀ S' v, stepO S o = .inr (S', v) → OpsOk S' r
theorem runO_nil (S : St2) : runO S [] = .inr ([], []) := rfl
theorem runO_bad {S : St2} {o : Op} {r : List Op} {e : Er} (h : stepO S o = .inl e) : runO S (o :: r) = .inl e := by
  unfold runO
  rw [h]
theorem runO_bad2 {S S' : St2} {o : Op} {r : List Op} {v : Rs} {e : Er} (h : stepO S o = .inr (S', v)) (h2 : runO S' r = .inl e) : runO S (o :: r) = .inl e := by
  unfold runO
  rw [h]
  show (match runO S' r with | .inl e => _ | .inr (ls, vs) => _) = _
  rw [h2]
theorem runO_good {S S' : St2} {o : Op} {r : List Op} {v : Rs} {ls : List LS} {vs : List Rs} (h : stepO S o = .inr (S', v)) (h2 : runO S' r = .inr (ls, vs)) : runO S (o :: r) = .inr ((S', some o) :: ls, v :: vs) := by
  unfold runO
  rw [h]
  show (match runO S' r with | .inl e => _ | .inr (ls, vs) => _) = _
  rw [h2]
/-- the middle of many operations -/
structure Mid (S0 : St2) (ops : List Op) (i : Nat) (S : St2) (ls : List LS) (rs : List Rs) : Prop where
  bad : ∀ e, runO S (ops.drop i) = .inl e → runO S0 ops = .inl e
  good : ∀ l2 r2, runO S (ops.drop i) = .inr (l2, r2) → runO S0 ops = .inr (ls ++ l2, rs ++ r2)
  ok : StOk S
  oks : OpsOk S (ops.drop i)
  ll : ls.length = i
  lr : rs.length = i
theorem Mid.zero {S : St2} {ops : List Op} (h : StOk S) (o : OpsOk S ops) : Mid S ops 0 S [] [] := ⟨fun _ h => h, fun _ _ h => h, h, o, rfl, rfl⟩
theorem drop_at {α : Type} {l : List α} {i : Nat} {x : α} (h : l[i]? = some x) : l.drop i = x :: l.drop (i + 1) := by
  have hl := (List.getElem?_eq_some_iff.mp h).1
  rw [List.drop_eq_getElem_cons hl, (List.getElem?_eq_some_iff.mp h).2]
theorem Mid.okO {S0 S : St2} {ops : List Op} {i : Nat} {ls : List LS} {rs : List Rs} {o : Op} (m : Mid S0 ops i S ls rs) (h : ops[i]? = some o) : OpOk S o := by
  have := m.oks
  rw [drop_at h] at this
  exact this.1
theorem Mid.err {S0 S : St2} {ops : List Op} {i : Nat} {ls : List LS} {rs : List Rs} {o : Op} {e : Er} (m : Mid S0 ops i S ls rs) (h : ops[i]? = some o) (he : stepO S o = .inl e) : runO S0 ops = .inl e :=
  m.bad e (by rw [drop_at h]; exact runO_bad he)
theorem Mid.step {S0 S S' : St2} {ops : List Op} {i : Nat} {ls : List LS} {rs : List Rs} {o : Op} {v : Rs} (m : Mid S0 ops i S ls rs) (h : ops[i]? = some o) (he : stepO S o = .inr (S', v)) : Mid S0 ops (i + 1) S' (ls ++ [(S', some o)]) (rs ++ [v]) where
  bad := fun e h2 => m.bad e (by rw [drop_at h]; exact runO_bad2 he h2)
  good := fun l2 r2 h2 => by
    rw [List.append_assoc, List.append_assoc]
    exact m.good _ _ (by rw [drop_at h]; exact runO_good he h2)
  ok := step_ok m.ok (m.okO h) he
  oks := by
    have := m.oks
    rw [drop_at h] at this
    exact this.2 _ _ he
  ll := by rw [List.length_append, m.ll]; rfl
  lr := by rw [List.length_append, m.lr]; rfl
theorem Mid.all {S0 S : St2} {ops : List Op} {ls : List LS} {rs : List Rs} (m : Mid S0 ops ops.length S ls rs) : runO S0 ops = .inr (ls, rs) := by
  have := m.good [] [] (by rw [List.drop_length]; rfl)
  rw [List.append_nil, List.append_nil] at this
  exact this
/-- what an operation's tuple begins with -/
theorem Op.shape (o : Op) : ∃ nm rest, o.vs = .str nm :: rest ∧ (nm, rest.length) ∈ opN ∧ 1 ≤ rest.length ∧ rest.length ≤ 3 := by
  cases o with
  | join n s p => exact ⟨"join", _, rfl, by simp [opN], by simp, by simp⟩
  | rem n => exact ⟨"remove", _, rfl, by simp [opN], by simp, by simp⟩
  | kind i b => exact ⟨"set_kind", _, rfl, by simp [opN], by simp, by simp⟩
end Sl

set_option Elab.async false
set_option linter.all false
set_option maxRecDepth 100000
set_option maxHeartbeats 4000000
namespace Sl
open PySem PySem.Spec L2 OwnR LamX
section
variable {P : Program} {w : World} {K : PySem.W.Frag} {mg : Str → Option Value} {base : Heap}
/-! ### _execute -/
/-- what may be asked of it: operations, up to one that is none -/
def ExecR (CR CNm CMy CU CO : Addr) (T : List (Addr × Str)) (H : Hp) (sl : Addr) (bs : List Addr) (Q : Addr → Addr → Hp → Prop) (E : XK) : Prop :=
  ∃ m : Nat, (∀ (i : Nat) (b : Addr), i < m → bs[i]? = some b → ∃ nm rest, H b = some (.tup (.str nm :: rest)) ∧ (nm, rest.length) ∈ opN ∧ rest.length ≤ 3) ∧
    ((∃ (b : Addr) (nm : Str) (k : Nat) (rest : List V), bs[m]? = some b ∧ H b = some (.tup (.str nm :: rest)) ∧ (nm, k) ∈ opN ∧ rest.length ≠ k ∧ rest.length ≤ 10 ∧ FldE CO "index" (.int ((m : Nat) : Int)) H E) ∨
     (m = bs.length ∧ ∃ (ss : List LS) (S : St2) (q : Option Op) (ops : List Op), StsAt CR H sl ss ∧ ss.getLast? = some (S, q) ∧ StOk S ∧ bs.length = ops.length ∧ (∀ (i : Nat) (b : Addr) (o : Op), bs[i]? = some b → ops[i]? = some o → H b = some (.tup o.vs)) ∧ OpsOk S ops ∧ Tabs T H ∧ ss.length ≤ 500 ∧
      (∀ e, runO S ops = .inl e → ∀ H' cls d, ExtN H H' → Tabs T H' → ErAt CNm CMy CU H' cls d e → E cls d H') ∧
      (∀ ls rs, runO S ops = .inr (ls, rs) → ∀ H' s2 r2, ExtN H H' → Tabs T H' → StsAt CR H' s2 (ss ++ ls) → RssAt H' r2 rs → NewA H s2 → NewA H r2 → s2 ≠ r2 → Q s2 r2 H')))
def spExec (CR CNm CMy CU CO : Addr) (T : List (Addr × Str)) : Sp := fun vs H Q E => ∃ (sl ot : Addr) (bs : List Addr), vs = [.ref sl, .ref ot] ∧ H ot = some (.tup (bs.map V.ref)) ∧ bs.length ≤ 100 ∧ ExecR CR CNm CMy CU CO T H sl bs (fun s2 r2 H' => ∀ t, H' t = none → Q (.ref t) (upd H' t (.tup [.ref s2, .ref r2]))) E
def nExec : List Str := ["states", "operations", "index", "operation", "results", "action", "arguments", "road", "cars", "last", "result"]
theorem scExec : FnScope nExec ["states", "operations"] (defScope sExecute) := ⟨rfl, rfl, rfl, by decide +kernel, rfl, by decide +kernel, by decide +kernel⟩
def actsL (CR CNm CMy CU : Addr) (T : List (Addr × Str)) (fJ fR fS : Addr) : List (Addr × Sp) := [(fJ, fun vs H Q E => spJoin CR CNm CMy CU T (vs ++ []) H Q E), (fR, fun vs H Q E => spRemove CR CNm CMy CU T (vs ++ []) H Q E), (fS, fun vs H Q E => spSetK CR CNm CMy CU T (vs ++ []) H Q E)]
def Op.nm : Op → Str
  | .join _ _ _ => "join"
  | .rem _ => "remove"
  | .kind _ _ => "set_kind"
def Op.rest : Op → List V
  | .join n s p => [.str n, .int ((s : Nat) : Int), .int ((p : Nat) : Int)]
  | .rem n => [.str n]
  | .kind i b => [.int ((i : Nat) : Int), .str (kindS b)]
theorem Op.vs_eq (o : Op) : o.vs = .str o.nm :: o.rest := by cases o <;> rfl
theorem Op.rest1 (o : Op) : 1 ≤ o.rest.length := by cases o <;> simp [Op.rest]
theorem act_of {CR CNm CMy CU ap gp fJ fR fS : Addr} {T : List (Addr × Str)} (O : OpT K w mg ap gp fJ fR fS) (o : Op) : ∃ q ∈ actsL CR CNm CMy CU T fJ fR fS, KDct K w ap o.nm (.ref q.1) ∧ ∀ (H : Hp) (p a : Addr) (S : St2) (Q : VK) (E : XK), AtS CR T H p a S → OpOk S o → StepR CR CNm CMy CU T H S o Q E → q.2 (.ref p :: .ref a :: (o.rest ++ [])) H Q E := by
  cases o with
  | join n st pc => exact ⟨_, List.mem_cons_self, O.aJ, fun H p a S Q E A ok r => ⟨p, a, S, n, st, pc, rfl, A, ok, r⟩⟩
  | rem n => exact ⟨_, List.mem_cons_of_mem _ List.mem_cons_self, O.aR, fun H p a S Q E A ok r => ⟨p, a, S, n, rfl, A, r⟩⟩
  | kind i b => exact ⟨_, List.mem_cons_of_mem _ (List.mem_cons_of_mem _ List.mem_cons_self), O.aS, fun H p a S Q E A ok r => ⟨p, a, S, i, b, rfl, A, ok, r⟩⟩
theorem StsAt.last {CR : Addr} {H : Hp} {l : Addr} {ss : List LS} {s : LS} (h : StsAt CR H l ss) (e : ss.getLast? = some s) : ∃ (ts : List Addr) (t : Addr) (m : Nat), H l = some (.lst (ts.map V.ref)) ∧ (ts.map V.ref).length = m + 1 ∧ ts[m]? = some t ∧ StAt CR H t s := by
  obtain ⟨ts, h1, h2, h3⟩ := h
  obtain ⟨pre, hp⟩ := List.getLast?_eq_some_iff.mp e
  have hl : ss.length = pre.length + 1 := by rw [hp, List.length_append]; rfl
  obtain ⟨t, ht⟩ : ∃ t, ts[pre.length]? = some t := ⟨_, List.getElem?_eq_getElem (by omega)⟩
  exact ⟨ts, t, pre.length, h1, by rw [List.length_map, h2, hl], ht, h3 _ t s ht (by rw [hp, List.getElem?_append_right (Nat.le_refl _), Nat.sub_self]; rfl)⟩
theorem ok_exec {f fO fJ fR fS ap gp CR CNm CMy CU CO : Addr} {fd dO dJ dR dS : FuncData} {T : List (Addr × Str)} (F : Fun K "_execute" "_execute" sExecute f fd) (M : Mg mg) (O : OpT K w mg ap gp fJ fR fS) (W : ErrF P w K mg base "InvalidOperation" "index" CO)
    (BO : Fb K mg "_is_operation" sIsOperation ["value"] fO dO) (GO : FnOk P w K mg base CX0 1 fO dO ["value"] spIsOp)
    (BJ : Fb K mg "_join" sJoin ["road", "cars", "name", "start", "pace"] fJ dJ) (GJ : FnOk P w K mg base (L2.CX P w) 8 fJ dJ ["road", "cars", "name", "start", "pace"] (spJoin CR CNm CMy CU T))
    (BR : Fb K mg "_remove" sRemove ["road", "cars", "name"] fR dR) (GR : FnOk P w K mg base (L2.CX P w) 8 fR dR ["road", "cars", "name"] (spRemove CR CNm CMy CU T))
    (BS : Fb K mg "_set_kind" sSetKind ["road", "cars", "section", "kind"] fS dS) (GS : FnOk P w K mg base (L2.CX P w) 8 fS dS ["road", "cars", "section", "kind"] (spSetK CR CNm CMy CU T)) : FnOk P w K mg base (L2.CX P w) 9 f fd ["states", "operations"] (spExec CR CNm CMy CU CO T) := by
  obtain ⟨fI, dI, ps, w1, w2, w3, w4⟩ := W.init
  refine F.okX scExec (fun vs H Q E h => ?_) (fun cdv A outer s H vs Q E hr h => ?_)
  · obtain ⟨sl, ot, bs, rfl, _⟩ := h
    rfl
  · obtain ⟨sl, ot, bs, rfl, hot, h100, m, good, h⟩ := h
    have nd := scExec.nd
    have hr1 : Room 1 (A.deeper (PyProof.Rows.envOfC "_execute" (defScope sExecute) s.heap.objs.size f cdv)) := hr.mono (by decide)
    have hr2 : Room (1 + 1) (A.deeper (PyProof.Rows.envOfC "_execute" (defScope sExecute) s.heap.objs.size f cdv)) := hr.mono (by decide)
    have acts : ∀ q ∈ actsL CR CNm CMy CU T fJ fR fS, FnR P w K mg base (L2.CX P w) 8 q.1 q.2 ∧ PySem.W.keepIn K (.ref q.1) = true := fun q hq => by
      unfold actsL at hq
      rcases List.mem_cons.mp hq with rfl | hq
      · exact ⟨GJ.raw BJ.bd .nil, BJ.fn.kp⟩
      rcases List.mem_cons.mp hq with rfl | hq
      · exact ⟨GR.raw BR.bd .nil, BR.fn.kp⟩
      · cases List.mem_singleton.mp hq
        exact ⟨GS.raw BS.bd .nil, BS.fn.kp⟩
    refine ⟨_, pss_cons (ps_for (passes_of rfl) rfl (pi_enumT (by rfl) M.enumerate (pa_cons (pv 1) pa_nil)) (pg_tup rfl (pgs_cons (pg_name (i := 2) nd rfl (.inl rfl)) (pgs_cons (pg_name (i := 3) nd rfl (.inl rfl)) pgs_nil)))
        (pss_one (ps_if (pt_not (pt_val (pe_call GO hr1 (by rfl) BO.at_ BO.fn.kp BO.bd .nil pass0 (pa_cons (pv 3) pa_nil)))) (pss_one (ps_raise rfl (takes_of rfl rfl rfl rfl) (pmk_oex W.T w1 w2 w4 hr2 w3 .nil pass0 (by rfl) W.g (pa_cons (pv 2) pa_nil)))) pss_nil)))
      (pss_cons (ps_set (i := 0) nd rfl (.inl rfl) (pe_callTy call_list_of (by rfl) M.list (by decide +kernel) (pa_cons (pv 0) pa_nil)))
      (pss_cons (ps_set (i := 4) nd rfl (.inl rfl) (pe_lst pa_nil))
      (pss_cons (ps_for (passes_of rfl) rfl (pi_tup (pv 1)) (pg_name (i := 3) nd rfl (.inl rfl))
        (pss_cons (ps_set (i := 5) nd rfl (.inl rfl) (pe_ix (r := rIxD K w) ix_kdict (pe_glob (v := .ref ap) (by rfl) O.mA rfl) (pe_ix (r := rIxT K) ix_tup (pv 3) pe_int (fun _ _ => rfl)) (fun _ _ => rfl)))
        (pss_cons (ps_set (i := 6) nd rfl (.inl rfl) (pe_slice sl_tup (pv 3) (po_some pe_int) po_none))
        (pss_cons (ps_asg (pe_ix (r := rIxL K) ix_list (pv 0) (pe_un un_neg pe_int) (fun _ _ => rfl)) (pg_tup rfl (pgs_cons (pg_name (i := 7) nd rfl (.inl rfl)) (pgs_cons (pg_name (i := 8) nd rfl (.inl rfl)) (pgs_cons (pg_name (i := 9) nd rfl (.inl rfl)) pgs_nil)))))
        (pss_cons (ps_asg (pe_callVs (i := 5) acts hr (passes_call (takes_of rfl rfl rfl rfl) fun _ _ _ _ h => h) rfl (.inl rfl) (pa_cons (pv 7) (pa_cons (pv 8) (StX.pa_star (pv 6) pa_nil)))) (pg_tup rfl (pgs_cons (pg_name (i := 7) nd rfl (.inl rfl)) (pgs_cons (pg_name (i := 8) nd rfl (.inl rfl)) (pgs_cons (pg_name (i := 10) nd rfl (.inl rfl)) pgs_nil)))))
        (pss_cons (ps_expr (pe_bm PySem.F.plainAttrs_list PySem.F.slot_list_append PySem.F.type_list_append mt_append (pv 0) (pa_cons (pe_tup (pa_cons (pv 7) (pa_cons (pv 8) (pa_cons (pv 3) pa_nil)))) pa_nil)))
        (pss_one (ps_expr (pe_bm PySem.F.plainAttrs_list PySem.F.slot_list_append PySem.F.type_list_append mt_append (pv 4) (pa_cons (pv 10) pa_nil))))))))))
      (pss_one (ps_ret (pe_tup (pa_cons (pv 0) (pa_cons (pv 4) pa_nil)))))))), ?_⟩
    have hbl : (bs.map V.ref).length = bs.length := by rw [List.length_map]
    refine ⟨_, rfl, ot, bs.map V.ref, rfl, SqT.of hot, for_it walk_enumT
      (fun i σ H1 => ∃ v2 v3, σ = [some (.ref sl), some (.ref ot), v2, v3, none, none, none, none, none, none, none] ∧ Same H H1 ∧ i ≤ m)
      ⟨none, none, rfl, fun b o e => e, Nat.zero_le _⟩ (fun i σ H1 _ ⟨_, _, _, s1, _⟩ => SqT.of (s1 _ _ hot)) ?_ ?_⟩
    · rintro i x σ H1 H2 hi ⟨v2, v3, rfl, s1, him⟩ ⟨Tq, x1, x2, rfl, hT, rfl, e1, e2⟩
      cases e1
      rw [hbl] at hi
      obtain ⟨b, hb⟩ : ∃ b, bs[i]? = some b := ⟨_, List.getElem?_eq_getElem hi⟩
      obtain rfl : x2 = V.ref b := by
        have e2 : (bs.map V.ref)[i]? = some x2 := e2
        rw [List.getElem?_map, hb] at e2
        exact (Option.some.inj e2).symm
      have sT := sameNew hT (.tup [V.int ((i : Nat) : Int), V.ref b])
      have s02 := s1.trans sT
      refine ⟨Tq, _, rfl, SqT.of upd_same, rfl, _, _, rfl, _, _, rfl, rfl, ?_⟩
      by_cases him2 : i < m
      · obtain ⟨nm, rest, hh, hn, h3⟩ := good i b him2 hb
        refine ⟨_, rfl, b, nm, rest.length, rest, rfl, s02 _ _ hh, hn, by omega, ?_⟩
        rw [decide_eq_true rfl]
        exact ⟨_, rfl, iteF ⟨_, _, rfl, s02, by omega⟩⟩
      · rcases h with ⟨b2, nm, k, rest, hb2, hh, hn, hne, h10, kE⟩ | ⟨em, _⟩
        · have eim : i = m := by omega
          subst eim
          obtain rfl : b = b2 := by rw [hb] at hb2; exact Option.some.inj hb2
          refine ⟨_, rfl, b, nm, k, rest, rfl, s02 _ _ hh, hn, h10, ?_⟩
          rw [decide_eq_false hne]
          exact ⟨_, rfl, iteT ⟨_, rfl, by show 1 ≤ 1000; decide, fld_mk kE s02⟩⟩
        · omega
    rintro σ H1 ⟨v2, v3, rfl, s1, him⟩
    rcases h with ⟨b2, nm, k, rest, hb2, _⟩ | ⟨em, ss, S0, q0, ops, hss, hlast, hS, hlen, hops, hok, hT, h500, kE, k⟩
    · have := (List.getElem?_eq_some_iff.mp hb2).1
      rw [hbl] at him
      omega
    obtain ⟨ts, t1, t2, t3⟩ := hss
    refine ⟨_, rfl, sl, _, rfl, .inl (SqL.of (s1 _ _ t1)), fun L hL => ?_⟩
    have nbL : ∀ b o, H b = some o → b ≠ L := fun b o e => ne_of_none (s1 _ _ e) hL
    have nL : NewA H L := fun o e => absurd rfl (nbL L o e)
    have sL := sameNew hL (.lst (ts.map V.ref))
    refine ⟨Nat.zero_le _, fun R hR => ?_⟩
    have sR := sameNew hR (.lst [])
    have s3 := s1.trans (sL.trans sR)
    have nbR : ∀ b o, H b = some o → b ≠ R := fun b o e => ne_of_none (sL _ _ (s1 _ _ e)) hR
    have nR : NewA H R := fun o e => absurd rfl (nbR R o e)
    have nLR : L ≠ R := ne_of_none upd_same hR
    have hL3 : upd (upd H1 L (.lst (ts.map V.ref))) R (.lst []) L = some (.lst (ts.map V.ref)) := sR _ _ upd_same
    have hR3 : upd (upd H1 L (.lst (ts.map V.ref))) R (.lst []) R = some (.lst []) := upd_same
    generalize upd (upd H1 L (.lst (ts.map V.ref))) R (.lst []) = H3 at s3 hL3 hR3 ⊢
    clear sL sR hL hR
    refine ⟨_, rfl, ot, rfl, ⟨_, SqT.of (s3 _ _ hot)⟩, for_it walk_tup
      (fun i σ H4 => ∃ (S : St2) (q : Option Op) (ls : List LS) (rs : List Rs) (v2 v3 v5 v6 v7 v8 v9 v10 : Option V), σ = [some (.ref L), some (.ref ot), v2, v3, some (.ref R), v5, v6, v7, v8, v9, v10] ∧ ExtN H H4 ∧ Tabs T H4 ∧ Mid S0 ops i S ls rs ∧ (ss ++ ls).getLast? = some (S, q) ∧ StsAt CR H4 L (ss ++ ls) ∧ RssAt H4 R rs)
      ⟨S0, q0, [], [], _, _, _, _, _, _, _, _, rfl, ExtN.same s3, hT.ext s3, Mid.zero hS hok, by rw [List.append_nil]; exact hlast, by rw [List.append_nil]; exact ⟨ts, hL3, t2, fun i t s e1 e2 => (t3 i t s e1 e2).nl (NL.of (ExtN.same s3))⟩, ⟨[], hR3, rfl, fun _ _ _ z => nomatch z⟩⟩
      (fun i σ H4 _ ⟨_, _, _, _, _, _, _, _, _, _, _, _, _, e4, _⟩ => SqT.of (ExtN.tup e4 hot)) ?_ ?_⟩
    · rintro i y σ Hz4 H4 hi ⟨S, q, ls, rs, v2, v3, v5, v6, v7, v8, v9, v10, rfl, e4, T4, mid, hl, stL, rR⟩ ⟨e, hy⟩
      subst e
      rw [hbl] at hi
      obtain ⟨b, hb⟩ : ∃ b, bs[i]? = some b := ⟨_, List.getElem?_eq_getElem hi⟩
      obtain ⟨o, ho⟩ : ∃ o, ops[i]? = some o := ⟨_, List.getElem?_eq_getElem (by omega)⟩
      obtain rfl : y = V.ref b := by
        rw [List.getElem?_map, hb] at hy
        exact (Option.some.inj hy).symm
      have hb4 := ExtN.tup e4 (hops i b o hb ho)
      rw [o.vs_eq] at hb4
      obtain ⟨fq, hfq, kd, run⟩ := act_of (CR := CR) (CNm := CNm) (CMy := CMy) (CU := CU) (T := T) O o
      have r1 := o.rest1
      -- the action, its arguments, what is there
      refine ⟨_, rfl, b, _, ((0 : Nat) : Int), .str o.nm, rfl, rfl, SqT.of hb4, atI_nat rfl, ap, o.nm, .ref fq.1, rfl, rfl, kd, ?_⟩
      refine ⟨_, rfl, 1, rfl, b, _, rfl, SqT.of hb4, fun z => ?_, fun z hz => ?_⟩
      · have z1 := z.1
        rw [show (some (1 : Int)) = some ((1 : Nat) : Int) from rfl, HT.sIx_nat, List.length_cons] at z1
        omega
      rw [show (some (1 : Int)) = some ((1 : Nat) : Int) from rfl, cut_from (by rw [List.length_cons]; omega)]
      have s5 := sameNew hz (.tup ((V.str o.nm :: o.rest).drop 1))
      have hz5 : upd H4 z (.tup ((V.str o.nm :: o.rest).drop 1)) z = some (.tup o.rest) := upd_same
      have e5 := e4.trans (ExtN.same s5)
      have T5 := T4.ext s5
      have st5 := stL.ext (ExtN.same s5)
      have rR5 := rR.ext (ExtN.same s5)
      have hb5 := s5 _ _ hb4
      generalize upd H4 z (.tup ((V.str o.nm :: o.rest).drop 1)) = H5 at s5 hz5 e5 T5 st5 rR5 hb5 ⊢
      obtain ⟨us, tl, mm, u1, u2, u3, p, a, qv, u4, rd, ct, u5⟩ := st5.last hl
      refine ⟨_, rfl, _, rfl, L, _, _, .ref tl, rfl, rfl, SqL.of u1, atI_lst u2 (map_atZ V.ref u3), tl, _, rfl, SqT.of u4, rfl, _, _, rfl, _, _, rfl, _, _, rfl, rfl, ?_⟩
      -- it runs
      refine ⟨fq, hfq, rfl, _, rfl, _, rfl, _, rfl, z, _, rfl, .inl (SqT.of hz5), ?_⟩
      refine run H5 p a S _ _ ⟨rd, ct, mid.ok, T5⟩ (mid.okO ho) ⟨fun er he H6 cls d e6 T6 hE => ?_, fun S' v he H6 t p2 a2 w6 e6 T6 ht6 rd6 ct6 hv6 => ?_⟩
      · exact kE er (mid.err ho he) H6 cls d (e5.trans e6) T6 hE
      have st6 := st5.ext e6
      have rR6 := rR5.ext e6
      have hb6 := ExtN.tup e6 hb5
      have e06 := e5.trans e6
      refine ⟨t, _, rfl, SqT.of ht6, rfl, _, _, rfl, _, _, rfl, _, _, rfl, rfl, ?_⟩
      -- the state
      have stt : ∃ xs, H6 L = some (.lst xs) := let ⟨_, h, _⟩ := st6; ⟨_, h⟩
      obtain ⟨xs0, hx0⟩ := stt
      refine ⟨_, rfl, .inl ⟨rfl, _, SqL.of hx0⟩, _, rfl, _, rfl, _, rfl, by show 3 ≤ sizeLine; decide, fun u hu7 => ?_⟩
      have s7 := sameNew hu7 (.tup [V.ref p2, V.ref a2, V.ref b])
      have e7 := ExtN.same s7
      have sn : StAt CR (upd H6 u (.tup [V.ref p2, V.ref a2, V.ref b])) u (S', some o) := ⟨p2, a2, .ref b, upd_same, rd6.ext e7, ct6.ext e7, b, rfl, by rw [o.vs_eq]; exact s7 _ _ hb6⟩
      have st7 := st6.ext e7
      have rR7 := rR6.ext e7
      have hv7 := hv6.ext e7
      have e07 := e06.trans e7
      have T7 := T6.ext s7
      generalize upd H6 u (.tup [V.ref p2, V.ref a2, V.ref b]) = H7 at s7 sn st7 rR7 hv7 e07 T7 ⊢
      obtain ⟨xs, x1, x2, x3⟩ := st7.snoc sn
      have hsz : (ss ++ ls).length ≤ 600 := by rw [List.length_append, mid.ll]; omega
      refine ⟨L, xs, _, rfl, rfl, x1, by rw [x2]; exact small1000 (by omega), ?_⟩
      have rR8 := rR7.put x1 nLR.symm (.lst (xs ++ [V.ref u]))
      have hv8 := hv7.nl (NL.put x1 (.lst (xs ++ [V.ref u])))
      have e08 : ExtN H (upd H7 L (.lst (xs ++ [V.ref u]))) := fun c oo e n => by rw [upd_ne (nbL _ _ e)]; exact e07 _ _ e n
      have T8 : Tabs T (upd H7 L (.lst (xs ++ [V.ref u]))) := Tabs.keepL T7 fun c oo e n => by rw [upd_ne (ne_of e x1 (n _))]; exact e
      generalize upd H7 L (.lst (xs ++ [V.ref u])) = H8 at x3 rR8 hv8 e08 T8 ⊢
      -- its result
      obtain ⟨ys, y1, y2, y3⟩ := rR8.snoc hv8
      refine ⟨_, rfl, .inl ⟨rfl, _, SqL.of y1⟩, _, rfl, R, ys, _, rfl, rfl, y1, by rw [y2, mid.lr]; exact small1000 (by omega), ?_⟩
      refine ⟨S', some o, ls ++ [(S', some o)], rs ++ [v], _, _, _, _, _, _, _, _, rfl, fun c oo e n => by rw [upd_ne (nbR _ _ e)]; exact e08 _ _ e n, Tabs.keepL T8 fun c oo e n => by rw [upd_ne (ne_of e y1 (n _))]; exact e, mid.step ho he, ?_, ?_, y3⟩
      · rw [← List.append_assoc, List.getLast?_append]
        rfl
      · rw [← List.append_assoc]
        exact x3.put y1 nLR _
    rintro σ H4 ⟨S, q, ls, rs, v2, v3, v5, v6, v7, v8, v9, v10, rfl, e4, T4, mid, hl, stL, rR⟩
    rw [hbl, hlen] at mid
    exact ⟨_, rfl, _, rfl, by show 2 ≤ sizeLine; decide, fun t ht => k ls rs mid.all H4 L R e4 T4 stL rR nL nR nLR t ht⟩
end
end Sl

set_option Elab.async false
set_option linter.all false
set_option maxRecDepth 100000
set_option maxHeartbeats 4000000
namespace Sl
open PySem PySem.Spec L2 OwnR LamX
/-! ### what a live road holds -/
def lvF (sl ul : Addr) (ib : Bool) (ks ku : Addr) : List (Str × V) := [("_states", .ref sl), ("_undone", .ref ul), ("_in_block", .bl ib), ("_kept_states", .ref ks), ("_kept_undone", .ref ku)]
theorem nsu_ : ¬ ("_states" : Str) = "_undone" := by decide +kernel
theorem nsb_ : ¬ ("_states" : Str) = "_in_block" := by decide +kernel
theorem nsk_ : ¬ ("_states" : Str) = "_kept_states" := by decide +kernel
theorem nsl_ : ¬ ("_states" : Str) = "_kept_undone" := by decide +kernel
theorem nub_ : ¬ ("_undone" : Str) = "_in_block" := by decide +kernel
theorem nuk_ : ¬ ("_undone" : Str) = "_kept_states" := by decide +kernel
theorem nul_ : ¬ ("_undone" : Str) = "_kept_undone" := by decide +kernel
theorem nbk_ : ¬ ("_in_block" : Str) = "_kept_states" := by decide +kernel
theorem nbl_ : ¬ ("_in_block" : Str) = "_kept_undone" := by decide +kernel
theorem nkl_ : ¬ ("_kept_states" : Str) = "_kept_undone" := by decide +kernel
theorem putF_ne {f g : Str} {v x : V} {r : List (Str × V)} (h : ¬ g = f) : putF f v ((g, x) :: r) = (g, x) :: putF f v r := by
  show (if g = f then _ else _) = _
  rw [if_neg h]
theorem putF_eq {f : Str} {v x : V} {r : List (Str × V)} : putF f v ((f, x) :: r) = (f, v) :: r := by
  show (if f = f then _ else _) = _
  rw [if_pos rfl]
theorem lk_eq {f : Str} {v : V} {r : List (Str × V)} : List.lookup f ((f, v) :: r) = some v := by rw [List.lookup_cons]; simp
theorem lk_ne {f g : Str} {v : V} {r : List (Str × V)} (h : ¬ g = f) : List.lookup f ((g, v) :: r) = List.lookup f r := by
  rw [List.lookup_cons]
  have : (f == g) = false := by simpa using fun e => h (Eq.symm e)
  rw [this]
theorem lv_s (sl ul ks ku : Addr) (ib : Bool) : (lvF sl ul ib ks ku).lookup ("_states" : Str) = some (.ref sl) := by unfold lvF; rw [lk_eq]
theorem lv_u (sl ul ks ku : Addr) (ib : Bool) : (lvF sl ul ib ks ku).lookup ("_undone" : Str) = some (.ref ul) := by unfold lvF; rw [lk_ne nsu_, lk_eq]
theorem lv_b (sl ul ks ku : Addr) (ib : Bool) : (lvF sl ul ib ks ku).lookup ("_in_block" : Str) = some (.bl ib) := by unfold lvF; rw [lk_ne nsb_, lk_ne nub_, lk_eq]
theorem lv_k (sl ul ks ku : Addr) (ib : Bool) : (lvF sl ul ib ks ku).lookup ("_kept_states" : Str) = some (.ref ks) := by unfold lvF; rw [lk_ne nsk_, lk_ne nuk_, lk_ne nbk_, lk_eq]
theorem lv_l (sl ul ks ku : Addr) (ib : Bool) : (lvF sl ul ib ks ku).lookup ("_kept_undone" : Str) = some (.ref ku) := by unfold lvF; rw [lk_ne nsl_, lk_ne nul_, lk_ne nbl_, lk_ne nkl_, lk_eq]
theorem lv_no (sl ul ks ku : Addr) (ib : Bool) {m : Str} (h0 : ¬ ("_states" : Str) = m) (h1 : ¬ ("_undone" : Str) = m) (h2 : ¬ ("_in_block" : Str) = m) (h3 : ¬ ("_kept_states" : Str) = m) (h4 : ¬ ("_kept_undone" : Str) = m) : (lvF sl ul ib ks ku).lookup m = none := by
  unfold lvF
  rw [lk_ne h0, lk_ne h1, lk_ne h2, lk_ne h3, lk_ne h4]
  rfl
theorem lvp2 (sl ul ks ku : Addr) (ib : Bool) : putF "_undone" (.ref ul) ([("_states", V.ref sl)] : List (Str × V)) = ([("_states", V.ref sl), ("_undone", .ref ul)] : List (Str × V)) := by rw [putF_ne nsu_]; rfl
theorem lvp3 (sl ul ks ku : Addr) (ib : Bool) : putF "_in_block" (.bl ib) ([("_states", V.ref sl), ("_undone", .ref ul)] : List (Str × V)) = ([("_states", V.ref sl), ("_undone", .ref ul), ("_in_block", .bl ib)] : List (Str × V)) := by rw [putF_ne nsb_, putF_ne nub_]; rfl
theorem lvp4 (sl ul ks ku : Addr) (ib : Bool) : putF "_kept_states" (.ref ks) ([("_states", V.ref sl), ("_undone", .ref ul), ("_in_block", .bl ib)] : List (Str × V)) = ([("_states", V.ref sl), ("_undone", .ref ul), ("_in_block", .bl ib), ("_kept_states", .ref ks)] : List (Str × V)) := by rw [putF_ne nsk_, putF_ne nuk_, putF_ne nbk_]; rfl
theorem lvp5 (sl ul ks ku : Addr) (ib : Bool) : putF "_kept_undone" (.ref ku) ([("_states", V.ref sl), ("_undone", .ref ul), ("_in_block", .bl ib), ("_kept_states", .ref ks)] : List (Str × V)) = ([("_states", V.ref sl), ("_undone", .ref ul), ("_in_block", .bl ib), ("_kept_states", .ref ks), ("_kept_undone", .ref ku)] : List (Str × V)) := by rw [putF_ne nsl_, putF_ne nul_, putF_ne nbl_, putF_ne nkl_]; rfl
theorem lvput_s (sl ul ks ku a : Addr) (ib : Bool) : putF "_states" (.ref a) (lvF sl ul ib ks ku) = lvF a ul ib ks ku := by unfold lvF; rw [putF_eq]
theorem lvput_u (sl ul ks ku a : Addr) (ib : Bool) : putF "_undone" (.ref a) (lvF sl ul ib ks ku) = lvF sl a ib ks ku := by unfold lvF; rw [putF_ne nsu_, putF_eq]
/-- all but what stands at p -/
def mask (p : Addr) (H : Hp) : Hp := fun b => if b = p then none else H b
theorem mask_ne {p b : Addr} {H : Hp} (h : b ≠ p) : mask p H b = H b := by unfold mask; rw [if_neg h]
theorem mask_some {p b : Addr} {H : Hp} {o : HO} (h : mask p H b = some o) : b ≠ p ∧ H b = some o := by
  unfold mask at h
  by_cases e : b = p
  · rw [if_pos e] at h
    cases h
  · rw [if_neg e] at h
    exact ⟨e, h⟩
theorem mask_upd {p : Addr} {H : Hp} (o : HO) : ExtN (mask p H) (upd H p o) := fun b u e _ => by
  obtain ⟨n, e⟩ := mask_some e
  rw [upd_ne n]
  exact e
theorem mask_ext {p : Addr} {H H' : Hp} (e : ExtN H H') : ExtN (mask p H) (mask p H') := fun b u h n => by
  obtain ⟨ne, h⟩ := mask_some h
  rw [mask_ne ne]
  exact e _ _ h n
/-- all but p stays, but for tables -/
structure KpP (p : Addr) (H H' : Hp) : Prop where
  ext : ExtN (mask p H) H'
theorem KpP.same {p : Addr} {H H' : Hp} (e : Same H H') : KpP p H H' := ⟨fun b o h _ => e _ _ (mask_some h).2⟩
theorem KpP.of {p : Addr} {H H' : Hp} (e : ExtN H H') : KpP p H H' := ⟨fun b o h n => e _ _ (mask_some h).2 n⟩
theorem KpP.trans {p : Addr} {H H1 H2 : Hp} (a : KpP p H H1) (b : KpP p H1 H2) : KpP p H H2 := ⟨fun c o h n => b.ext _ _ (by rw [mask_ne (mask_some h).1]; exact a.ext _ _ h n) n⟩
theorem KpP.upd {p : Addr} {H : Hp} {C dx : Addr} {fs : List (Str × V)} (hp : H p = some (.ins C dx fs)) (o : HO) : KpP p H (upd H p o) := ⟨mask_upd o⟩
theorem KpP.get {p b : Addr} {H H' : Hp} (k : KpP p H H') {o : HO} (h : H b = some o) (n : b ≠ p) (nt : ∀ ps, o ≠ .tbl ps) : H' b = some o := k.ext _ _ (by rw [mask_ne n]; exact h) nt
theorem Tabs.updI {T : List (Addr × Str)} {H : Hp} {p C dx : Addr} {fs : List (Str × V)} (t : Tabs T H) (hp : H p = some (.ins C dx fs)) (o : HO) : Tabs T (L2.upd H p o) := Tabs.keepP t hp fun b u e n => by rw [upd_ne n]; exact e
/-! ### a live road -/
theorem rf_ne_lv {CR CL dx dy t : Addr} {u : Str} {sl ul ks ku : Addr} {ib : Bool} : HO.ins CR dx (rf t u) ≠ HO.ins CL dy (lvF sl ul ib ks ku) := fun z => by
  have e := congrArg List.length (HO.ins.inj z).2.2
  have e1 : (rf t u).length = 2 := rfl
  have e2 : (lvF sl ul ib ks ku).length = 5 := rfl
  rw [e1, e2] at e
  cases e
theorem KpP.tup {x : Addr} {H H' : Hp} {CL dx : Addr} {fs : List (Str × V)} (hx : H x = some (.ins CL dx fs)) (k : KpP x H H') {a : Addr} {xs : List V} (h : H a = some (.tup xs)) : H' a = some (.tup xs) := k.get h (ne_of h hx (by intro z; cases z)) (fun _ z => nomatch z)
theorem KpP.lst {x : Addr} {H H' : Hp} {CL dx : Addr} {fs : List (Str × V)} (hx : H x = some (.ins CL dx fs)) (k : KpP x H H') {a : Addr} {xs : List V} (h : H a = some (.lst xs)) : H' a = some (.lst xs) := k.get h (ne_of h hx (by intro z; cases z)) (fun _ z => nomatch z)
theorem KpP.dK {x : Addr} {H H' : Hp} {CL dx : Addr} {fs : List (Str × V)} (hx : H x = some (.ins CL dx fs)) (k : KpP x H H') {a : Addr} {kv : List (Key × V)} (h : H a = some (.dK kv)) : H' a = some (.dK kv) := k.get h (ne_of h hx (by intro z; cases z)) (fun _ z => nomatch z)
section
variable {H H' : Hp} {x CL dx sl ul ks ku : Addr} {ib : Bool}
theorem RoadAt.kp {C p : Addr} {secs : List Sec} (h : RoadAt C H p secs) (hx : H x = some (.ins CL dx (lvF sl ul ib ks ku))) (k : KpP x H H') : RoadAt C H' p secs := by
  obtain ⟨d, t, u, h1, ⟨ts, a1, a2, a3⟩, h3⟩ := h
  exact ⟨d, t, u, k.get h1 (ne_of h1 hx rf_ne_lv) (fun _ z => nomatch z), ⟨ts, k.tup hx a1, a2, fun i t s e1 e2 => k.tup hx (a3 i t s e1 e2)⟩, h3⟩
theorem CarsAt.kp {a : Addr} {cars : List Car} {fs : List (Str × V)} (h : CarsAt H a cars) (hx : H x = some (.ins CL dx fs)) (k : KpP x H H') : CarsAt H' a cars := by
  obtain ⟨ts, a1, a2, a3⟩ := h
  exact ⟨ts, k.tup hx a1, a2, fun i t s e1 e2 => k.tup hx (a3 i t s e1 e2)⟩
theorem OpVAt.kp {v : V} {o : Option Op} {fs : List (Str × V)} (h : OpVAt H v o) (hx : H x = some (.ins CL dx fs)) (k : KpP x H H') : OpVAt H' v o := by
  cases o with
  | none => exact h
  | some o =>
    obtain ⟨b, h1, h2⟩ := h
    exact ⟨b, h1, k.tup hx h2⟩
theorem StAt.kp {CR t : Addr} {s : LS} (h : StAt CR H t s) (hx : H x = some (.ins CL dx (lvF sl ul ib ks ku))) (k : KpP x H H') : StAt CR H' t s := by
  obtain ⟨p, a, o, h1, h2, h3, h4⟩ := h
  exact ⟨p, a, o, k.tup hx h1, h2.kp hx k, h3.kp hx k, h4.kp hx k⟩
theorem StsAt.kp {CR l : Addr} {ss : List LS} (h : StsAt CR H l ss) (hx : H x = some (.ins CL dx (lvF sl ul ib ks ku))) (k : KpP x H H') : StsAt CR H' l ss := by
  obtain ⟨ts, h1, h2, h3⟩ := h
  exact ⟨ts, k.lst hx h1, h2, fun i t s e1 e2 => (h3 i t s e1 e2).kp hx k⟩
theorem PairsAt.kp {d : Addr} {ns : List Str} {g : Str → Int × Int} {fs : List (Str × V)} (h : PairsAt H d ns g) (hx : H x = some (.ins CL dx fs)) (k : KpP x H H') : PairsAt H' d ns g := by
  obtain ⟨ts, h1, h2, h3⟩ := h
  exact ⟨ts, k.dK hx h1, h2, fun i t m e1 e2 => k.tup hx (h3 i t m e1 e2)⟩
theorem RsAt.kp {v : V} {r : Rs} {fs : List (Str × V)} (h : RsAt H v r) (hx : H x = some (.ins CL dx fs)) (k : KpP x H H') : RsAt H' v r := by
  cases r with
  | tick i => exact h
  | chg ns g =>
    obtain ⟨d, h1, h2⟩ := h
    exact ⟨d, h1, h2.kp hx k⟩
theorem RssAt.kp {l : Addr} {rs : List Rs} {fs : List (Str × V)} (h : RssAt H l rs) (hx : H x = some (.ins CL dx fs)) (k : KpP x H H') : RssAt H' l rs := by
  obtain ⟨vs, h1, h2, h3⟩ := h
  exact ⟨vs, k.lst hx h1, h2, fun i v r e1 e2 => (h3 i v r e1 e2).kp hx k⟩
end
def LvAt (CL CR : Addr) (H : Hp) (x dx : Addr) (ss un : List LS) : Prop := ∃ sl ul ks ku : Addr, H x = some (.ins CL dx (lvF sl ul false ks ku)) ∧ StsAt CR H sl ss ∧ StsAt CR H ul un
theorem LvAt.ext {CL CR : Addr} {H H' : Hp} {x dx : Addr} {ss un : List LS} (h : LvAt CL CR H x dx ss un) (e : ExtN H H') : LvAt CL CR H' x dx ss un := by
  obtain ⟨sl, ul, ks, ku, h1, h2, h3⟩ := h
  exact ⟨sl, ul, ks, ku, e _ _ h1 (fun _ z => nomatch z), h2.ext e, h3.ext e⟩
/-- the object's states are replaced -/
theorem LvAt.put {CL CR : Addr} {H : Hp} {x dx sl ul ks ku s2 u2 : Addr} {ss un : List LS} (hx : H x = some (.ins CL dx (lvF sl ul false ks ku))) (h2 : StsAt CR H s2 ss) (h3 : StsAt CR H u2 un) : LvAt CL CR (upd H x (.ins CL dx (lvF s2 u2 false ks ku))) x dx ss un :=
  ⟨s2, u2, ks, ku, upd_same, h2.kp hx (KpP.upd hx _), h3.kp hx (KpP.upd hx _)⟩
/-- what the program asks of the class -/
structure LivT (K : PySem.W.Frag) (CL : Addr) : Prop where
  cl : Cls K CL
  ns : NoAttr K CL "_states"
  nu : NoAttr K CL "_undone"
  nb : NoAttr K CL "_in_block"
  nk : NoAttr K CL "_kept_states"
  nl : NoAttr K CL "_kept_undone"
section
variable {P : Program} {w : World} {K : PySem.W.Frag} {mg : Str → Option Value} {base : Heap}
/-! ### __init__ -/
def spLInit (CL CR : Addr) : Sp := fun vs H Q _ => ∃ (H0 : Hp) (x dx p : Addr) (secs : List Sec), vs = [.ref x, .ref p] ∧ H x = some (.ins CL dx []) ∧ Same H0 H ∧ H0 x = none ∧ RoadAt CR H0 p secs ∧ SecsOk secs ∧
  ∀ H', Same H0 H' → LvAt CL CR H' x dx [((secs, []), none)] [] → Q .non H'
theorem scLInit : FnScope ["self", "road"] ["self", "road"] (defScope sLiveRoadInit) := ⟨rfl, rfl, rfl, by decide +kernel, rfl, by decide +kernel, by decide +kernel⟩
theorem ok_lInit {f CL CR : Addr} {fd : FuncData} (F : Fun K "__init__" "LiveRoad.__init__" sLiveRoadInit f fd) (LT : LivT K CL) : FnOk P w K mg base CX0 1 f fd ["self", "road"] (spLInit CL CR) := by
  refine F.ok scLInit (fun vs H Q E h => ?_) (fun cdv A outer s H vs Q E hr h => ?_)
  · obtain ⟨H0, x, dx, p, secs, rfl, _⟩ := h
    rfl
  · obtain ⟨H0, x, dx, p, secs, rfl, hx, s0, x0, rd, SO, k⟩ := h
    have nd := scLInit.nd
    refine ⟨_, pss_cons (ps_fld (pv 0) (pe_lst (pa_cons (pe_tup (pa_cons (pv 1) (pa_cons (pe_tup pa_nil) (pa_cons pe_non pa_nil)))) pa_nil)) rfl)
      (pss_cons (ps_fld (pv 0) (pe_lst pa_nil) rfl) (pss_cons (ps_fld (pv 0) pe_bl rfl) (pss_cons (ps_fld (pv 0) (pe_fld (pv 0) rfl) rfl) (pss_one (ps_fld (pv 0) (pe_fld (pv 0) rfl) rfl))))), ?_⟩
    refine ⟨_, rfl, Nat.zero_le _, fun c hc => ⟨by show 3 ≤ sizeLine; decide, fun t ht => ⟨by show 1 ≤ sizeLine; decide, fun sl hsl => ?_⟩⟩⟩
    have a1 := sameNew hc (.tup [])
    have a2 := sameNew ht (.tup [V.ref p, V.ref c, .non])
    have a3 := sameNew hsl (.lst [V.ref t])
    have hx3 := a3 _ _ (a2 _ _ (a1 _ _ hx))
    have hsl3 : upd (upd (upd H c (.tup [])) t (.tup [V.ref p, V.ref c, .non])) sl (.lst [V.ref t]) sl = some (.lst [V.ref t]) := upd_same
    have ht3 := a3 _ _ (upd_same (H := upd H c (.tup [])) (a := t) (o := .tup [V.ref p, V.ref c, .non]))
    have hc3 := a3 _ _ (a2 _ _ (upd_same (H := H) (a := c) (o := .tup [])))
    have s3 : Same H0 (upd (upd (upd H c (.tup [])) t (.tup [V.ref p, V.ref c, .non])) sl (.lst [V.ref t])) := s0.trans (a1.trans (a2.trans a3))
    generalize upd (upd (upd H c (.tup [])) t (.tup [V.ref p, V.ref c, .non])) sl (.lst [V.ref t]) = H3 at hx3 hsl3 ht3 hc3 s3 ⊢
    clear a1 a2 a3 hc ht hsl hx s0
    have nx : ∀ {b : Addr} {o : HO}, H0 b = some o → b ≠ x := fun e => ne_of_none e x0
    have nsx : sl ≠ x := ne_of hsl3 hx3 (by intro z; cases z)
    have ntx : t ≠ x := ne_of ht3 hx3 (by intro z; cases z)
    have ncx : c ≠ x := ne_of hc3 hx3 (by intro z; cases z)
    refine ⟨_, rfl, x, CL, dx, _, rfl, hx3, LT.cl, LT.ns, by show 0 < 1000; decide, ?_⟩
    have hx4 : upd H3 x (.ins CL dx [("_states", V.ref sl)]) x = some (.ins CL dx [("_states", V.ref sl)]) := upd_same
    have k4 : ∀ b o, H3 b = some o → b ≠ x → upd H3 x (.ins CL dx [("_states", V.ref sl)]) b = some o := fun b o e n => by rw [upd_ne n]; exact e
    show Ends.nx _ _ (upd H3 x (.ins CL dx [("_states", V.ref sl)]))
    generalize upd H3 x (.ins CL dx [("_states", V.ref sl)]) = H4 at hx4 k4 ⊢
    refine ⟨Nat.zero_le _, fun ul hul => ?_⟩
    have a5 := sameNew hul (.lst [])
    have hx5 := a5 _ _ hx4
    have hul5 : upd H4 ul (.lst []) ul = some (.lst []) := upd_same
    have nux : ul ≠ x := ne_of hul5 hx5 (by intro z; cases z)
    have k5 : ∀ b o, H3 b = some o → b ≠ x → upd H4 ul (.lst []) b = some o := fun b o e n => a5 _ _ (k4 b o e n)
    generalize upd H4 ul (.lst []) = H5 at a5 hx5 hul5 k5 ⊢
    refine ⟨_, rfl, x, CL, dx, _, rfl, hx5, LT.cl, LT.nu, by show 1 < 1000; decide, ?_⟩
    rw [lvp2 sl ul sl ul false]
    refine ⟨_, rfl, x, CL, dx, _, rfl, upd_same, LT.cl, LT.nb, by show 2 < 1000; decide, ?_⟩
    rw [lvp3 sl ul sl ul false]
    refine ⟨_, rfl, x, CL, dx, _, .ref sl, rfl, upd_same, LT.cl, LT.ns, lk_eq, _, rfl, x, CL, dx, _, rfl, upd_same, LT.cl, LT.nk, by show 3 < 1000; decide, ?_⟩
    rw [lvp4 sl ul sl ul false]
    refine ⟨_, rfl, x, CL, dx, _, .ref ul, rfl, upd_same, LT.cl, LT.nu, by rw [lk_ne nsu_, lk_eq], _, rfl, x, CL, dx, _, rfl, upd_same, LT.cl, LT.nl, by show 4 < 1000; decide, ?_⟩
    rw [lvp5 sl ul sl ul false]
    have k9 : ∀ (o1 o2 o3 o4 : HO) (b : Addr) (o : HO), H3 b = some o → b ≠ x → upd (upd (upd (upd H5 x o1) x o2) x o3) x o4 b = some o := fun o1 o2 o3 o4 b o e n => by rw [upd_ne n, upd_ne n, upd_ne n, upd_ne n]; exact k5 b o e n
    have hu9 : ∀ (o1 o2 o3 o4 : HO), upd (upd (upd (upd H5 x o1) x o2) x o3) x o4 ul = some (.lst []) := fun o1 o2 o3 o4 => by rw [upd_ne nux, upd_ne nux, upd_ne nux, upd_ne nux]; exact hul5
    refine k _ (fun b o e => k9 _ _ _ _ b o (s3 _ _ e) (nx e)) ⟨sl, ul, sl, ul, upd_same, ⟨[t], k9 _ _ _ _ _ _ hsl3 nsx, rfl, fun i u v e1 e2 => ?_⟩, ⟨[], hu9 _ _ _ _, rfl, fun _ _ _ z => nomatch z⟩⟩
    match i, e1, e2 with
    | 0, e1, e2 =>
      cases e1
      cases e2
      exact ⟨p, c, .non, k9 _ _ _ _ _ _ ht3 ntx, rd.ext (ExtN.same fun b o e => k9 _ _ _ _ b o (s3 _ _ e) (nx e)), ⟨[], k9 _ _ _ _ _ _ hc3 ncx, rfl, fun _ _ _ z => nomatch z⟩, rfl⟩
end
end Sl

set_option Elab.async false
set_option linter.all false
set_option maxRecDepth 100000
set_option maxHeartbeats 4000000
namespace Sl
open PySem PySem.Spec L2 OwnR LamX
section
variable {P : Program} {w : World} {K : PySem.W.Frag} {mg : Str → Option Value} {base : Heap}
/-! ### apply -/
/-- the list of undone ones that x holds was none of the lists that stood there -/
def UnN (CL : Addr) (H H' : Hp) (x : Addr) : Prop := ∀ (dy : Addr) (fs : List (Str × V)), H' x = some (.ins CL dy fs) → ∀ u, fs.lookup ("_undone" : Str) = some (.ref u) → ∀ xs, H u ≠ some (.lst xs)
theorem UnN.same {CL x : Addr} {H H1 H' : Hp} (h : UnN CL H1 H' x) (s : Same H H1) : UnN CL H H' x := fun dy fs e u hu xs z => h dy fs e u hu xs (s _ _ z)
def ApplyR (CL CR CNm CMy CU CO : Addr) (T : List (Addr × Str)) (H : Hp) (x dx : Addr) (ss un : List LS) (bs : List Addr) (Q : VK) (E : XK) : Prop :=
  ∃ m : Nat, (∀ (i : Nat) (b : Addr), i < m → bs[i]? = some b → ∃ nm rest, H b = some (.tup (.str nm :: rest)) ∧ (nm, rest.length) ∈ opN ∧ rest.length ≤ 3) ∧
    ((∃ (b : Addr) (nm : Str) (k : Nat) (rest : List V), bs[m]? = some b ∧ H b = some (.tup (.str nm :: rest)) ∧ (nm, k) ∈ opN ∧ rest.length ≠ k ∧ rest.length ≤ 10 ∧ FldE CO "index" (.int ((m : Nat) : Int)) H E) ∨
     (m = bs.length ∧ ∃ (S : St2) (q : Option Op) (ops : List Op), ss.getLast? = some (S, q) ∧ StOk S ∧ bs.length = ops.length ∧ (∀ (i : Nat) (b : Addr) (o : Op), bs[i]? = some b → ops[i]? = some o → H b = some (.tup o.vs)) ∧ OpsOk S ops ∧ Tabs T H ∧ ss.length ≤ 500 ∧
      (∀ e, runO S ops = .inl e → ∀ H' cls d, ExtN H H' → Tabs T H' → ErAt CNm CMy CU H' cls d e → E cls d H') ∧
      (∀ ls rs, runO S ops = .inr (ls, rs) → ∀ H' r2, KpP x H H' → Tabs T H' → LvAt CL CR H' x dx (ss ++ ls) (if ops = [] then un else []) → (ops ≠ [] → UnN CL H H' x) → RssAt H' r2 rs → Q (.ref r2) H')))
def spApply0 (CL CR CNm CMy CU CO : Addr) (T : List (Addr × Str)) : Sp := fun vs H Q E => ∃ (x dx ot : Addr) (ss un : List LS) (bs : List Addr), vs = [.ref x, .ref ot] ∧ H ot = some (.tup (bs.map V.ref)) ∧ bs.length ≤ 100 ∧ LvAt CL CR H x dx ss un ∧ ApplyR CL CR CNm CMy CU CO T H x dx ss un bs Q E
abbrev spApply (CL CR CNm CMy CU CO : Addr) (T : List (Addr × Str)) : Sp := fun vs H Q E => ∃ ws rest, vs = ws ++ rest ∧ ws.length = (["self"] : List Str).length ∧ rest.length ≤ sizeLine ∧ ∀ p, H p = Option.none → spApply0 CL CR CNm CMy CU CO T (ws ++ [V.ref p]) (upd H p (.tup rest)) Q E
def nApply : List Str := ["self", "operations", "states", "results"]
theorem scApply : FnScope nApply ["self", "operations"] (defScope sLiveRoadApply) := ⟨rfl, rfl, rfl, by decide +kernel, rfl, by decide +kernel, by decide +kernel⟩
theorem ok_apply {f fE CL CR CNm CMy CU CO : Addr} {fd dE : FuncData} {T : List (Addr × Str)} (F : Fun K "apply" "LiveRoad.apply" sLiveRoadApply f fd) (LT : LivT K CL)
    (BE : Fb K mg "_execute" sExecute ["states", "operations"] fE dE) (GE : FnOk P w K mg base (L2.CX P w) 9 fE dE ["states", "operations"] (spExec CR CNm CMy CU CO T)) : FnR P w K mg base (L2.CX P w) 10 f (spApply CL CR CNm CMy CU CO T) := by
  obtain ⟨oc, od, kV, doc, pm, an, cdv, ct, osl, rfl, lk, hcd⟩ := F.ex
  refine StX.fn_star lk hcd scApply StX.cxUp (StX.bind_star1 (p1 := "self") (pv := "operations") (B := fun xs => bindArgs (PySem.W.fnOf "apply" "LiveRoad.apply" (defArgs sLiveRoadApply) (defBody sLiveRoadApply) (defScope sLiveRoadApply) .none kV doc pm an cdv ct) ⟨xs, []⟩) (fun _ => rfl) (fun _ _ _ => rfl)) fun A outer s H vs Q E hr h => ?_
  obtain ⟨x, dx, ot, ss, un, bs, rfl, hot, h100, ⟨sl, ul, ks, ku, hx, hsl, hul⟩, m, good, h⟩ := h
  have nd := scApply.nd
  have hr9 : Room 9 (A.deeper (PyProof.Rows.envOfC "LiveRoad.apply" (defScope sLiveRoadApply) s.heap.objs.size f cdv)) := hr.mono (by decide)
  refine ⟨_, pss_cons (ps_asg (pe_call GE hr9 (by rfl) BE.at_ BE.fn.kp BE.bd .nil (passes_call (takes_of rfl rfl rfl rfl) fun _ _ _ _ h => h) (pa_cons (pe_fld (pv 0) rfl) (pa_cons (pv 1) pa_nil))) (pg_tup rfl (pgs_cons (pg_name (i := 2) nd rfl (.inl rfl)) (pgs_cons (pg_name (i := 3) nd rfl (.inl rfl)) pgs_nil))))
    (pss_cons (ps_if (pt_truth (pv 1) (fun _ => rfl)) (pss_cons (ps_fld (pv 0) (pv 2) rfl) (pss_one (ps_fld (pv 0) (pe_lst pa_nil) rfl))) pss_nil)
    (pss_one (ps_ret (pv 3)))), ?_⟩
  refine ⟨_, rfl, x, CL, dx, _, _, rfl, hx, LT.cl, LT.ns, lv_s _ _ _ _ _, _, rfl, sl, ot, bs, rfl, hot, h100, m, good, ?_⟩
  rcases h with h | ⟨em, S, q, ops, hlast, hS, hlen, hops, hok, hT, h500, kE, k⟩
  · exact .inl h
  refine .inr ⟨em, ss, S, q, ops, hsl, hlast, hS, hlen, hops, hok, hT, h500, kE, fun ls rs hrun H1 s2 r2 e1 T1 st1 rr1 ns nr nsr t ht => ?_⟩
  have s2' := sameNew ht (.tup [V.ref s2, V.ref r2])
  refine ⟨t, _, rfl, SqT.of upd_same, rfl, _, _, rfl, _, _, rfl, rfl, ?_⟩
  have e2 := e1.trans (ExtN.same s2')
  have T2 := T1.ext s2'
  have st2 := st1.ext (ExtN.same s2')
  have rr2 := rr1.ext (ExtN.same s2')
  generalize upd H1 t (.tup [V.ref s2, V.ref r2]) = H2 at e2 T2 st2 rr2 ⊢
  have hx2 := e2 _ _ hx (fun _ z => nomatch z)
  have hul2 := hul.ext e2
  refine ⟨_, rfl, _, .inr (.inl ⟨_, SqT.of (ExtN.tup e2 hot), rfl⟩), ?_⟩
  by_cases hb : bs = []
  · have ho : ops = [] := List.length_eq_zero_iff.mp (by rw [← hlen, hb]; rfl)
    have hl : ls = [] := by
      rw [ho] at hrun
      exact ((Prod.mk.inj (Sum.inr.inj hrun)).1).symm
    rw [hb]
    refine iteF ⟨_, rfl, k ls rs hrun H2 r2 (KpP.of e2) T2 ?_ (fun z => absurd ho z) rr2⟩
    rw [if_pos ho, hl, List.append_nil]
    exact ⟨sl, ul, ks, ku, hx2, hsl.ext e2, hul2⟩
  · have ho : ops ≠ [] := fun z => hb (List.length_eq_zero_iff.mp (by rw [hlen, z]; rfl))
    rw [show (!(bs.map V.ref).isEmpty) = true by cases bs with | nil => exact absurd rfl hb | cons _ _ => rfl]
    refine iteT ⟨_, rfl, _, rfl, x, CL, dx, _, rfl, hx2, LT.cl, LT.ns, by show 5 < 1000; decide, ?_⟩
    rw [lvput_s]
    have kp3 := KpP.upd hx2 (.ins CL dx (lvF s2 ul false ks ku))
    have hx3 : upd H2 x (.ins CL dx (lvF s2 ul false ks ku)) x = some (.ins CL dx (lvF s2 ul false ks ku)) := upd_same
    have st3 := st2.kp hx2 kp3
    have rr3 := rr2.kp hx2 kp3
    have T3 := Tabs.updI T2 hx2 (.ins CL dx (lvF s2 ul false ks ku))
    show Ends.nx _ _ (upd H2 x (.ins CL dx (lvF s2 ul false ks ku)))
    generalize upd H2 x (.ins CL dx (lvF s2 ul false ks ku)) = H3 at kp3 hx3 st3 rr3 T3 ⊢
    refine ⟨Nat.zero_le _, fun z hz => ?_⟩
    have nz : ∀ xs, H z ≠ some (.lst xs) := fun xs e => by
      have := KpP.lst hx ((KpP.of e2).trans kp3) e
      rw [hz] at this
      cases this
    have s4 := sameNew hz (.lst [])
    have hx4 := s4 _ _ hx3
    have st4 := st3.ext (ExtN.same s4)
    have rr4 := rr3.ext (ExtN.same s4)
    have T4 := T3.ext s4
    have hz4 : StsAt CR (upd H3 z (.lst [])) z [] := ⟨[], upd_same, rfl, fun _ _ _ w => nomatch w⟩
    generalize upd H3 z (.lst []) = H4 at s4 hx4 st4 rr4 T4 hz4 ⊢
    refine ⟨_, rfl, x, CL, dx, _, rfl, hx4, LT.cl, LT.nu, by show 5 < 1000; decide, ?_⟩
    rw [lvput_u]
    have kp5 := KpP.upd hx4 (.ins CL dx (lvF s2 z false ks ku))
    refine ⟨_, rfl, k ls rs hrun _ r2 ((KpP.of e2).trans (kp3.trans ((KpP.same s4).trans kp5))) (Tabs.updI T4 hx4 _) ?_ (fun _ dy fs ex u hu xs hxs => ?_) (rr4.kp hx4 kp5)⟩
    · rw [if_neg ho]
      exact LvAt.put hx4 st4 hz4
    · rw [show upd H4 x (.ins CL dx (lvF s2 z false ks ku)) x = some (.ins CL dx (lvF s2 z false ks ku)) from upd_same] at ex
      have e3 := (HO.ins.inj (Option.some.inj ex)).2.2
      rw [← e3, lv_u] at hu
      cases hu
      exact nz xs hxs
/-! ### join, remove, set_kind -/
def AskR (CL CR CNm CMy CU : Addr) (T : List (Addr × Str)) (H : Hp) (x dx : Addr) (ss : List LS) (S : St2) (o : Op) (Q : VK) (E : XK) : Prop :=
  (∀ e, stepO S o = .inl e → ∀ H' cls d, ExtN H H' → Tabs T H' → ErAt CNm CMy CU H' cls d e → E cls d H') ∧
  (∀ S' r, stepO S o = .inr (S', r) → ∀ H' v, KpP x H H' → Tabs T H' → LvAt CL CR H' x dx (ss ++ [(S', some o)]) [] → UnN CL H H' x → RsAt H' v r → Q v H')
structure LvIn (CL CR : Addr) (T : List (Addr × Str)) (H : Hp) (x dx : Addr) (ss un : List LS) (S : St2) : Prop where
  lv : LvAt CL CR H x dx ss un
  last : ∃ q, ss.getLast? = some (S, q)
  ok : StOk S
  tb : Tabs T H
  few : ss.length ≤ 500
theorem ask_apply {CL CR CNm CMy CU CO : Addr} {T : List (Addr × Str)} {H : Hp} {x dx b : Addr} {ss un : List LS} {S : St2} {o : Op} {Q : VK} {E : XK} (I : LvIn CL CR T H x dx ss un S) (ok : OpOk S o) (hb : H b = some (.tup o.vs)) (h : AskR CL CR CNm CMy CU T H x dx ss S o Q E) {Q2 : VK} (hQ : ∀ (r2 : Addr) (vs : List V) (v : V) (H1 : Hp), H1 r2 = some (.lst vs) → vs[0]? = some v → Q v H1 → Q2 (.ref r2) H1) :
    spApply CL CR CNm CMy CU CO T [.ref x, .ref b] H Q2 E := by
  obtain ⟨q, hq⟩ := I.last
  refine ⟨[.ref x], [.ref b], rfl, rfl, by show 1 ≤ sizeLine; decide, fun ot hot => ?_⟩
  have s1 := sameNew hot (.tup [V.ref b])
  have e1 := ExtN.same s1
  have hb1 := s1 _ _ hb
  refine ⟨x, dx, ot, ss, un, [b], rfl, upd_same, by show 1 ≤ 100; decide, I.lv.ext e1, 1, fun i c hi hc => ?_, .inr ⟨rfl, S, q, [o], hq, I.ok, rfl, fun i c p hc hp => ?_, ⟨ok, fun _ _ _ => True.intro⟩, I.tb.ext s1, I.few, fun e he H' cls d e2 T2 hE => ?_, fun ls rs hr H' r2 k2 T2 lv un2 rr => ?_⟩⟩
  · match i, hc with
    | 0, hc =>
      cases hc
      obtain ⟨nm, rest, h1, h2, _, h4⟩ := o.shape
      exact ⟨nm, rest, by rw [← h1]; exact hb1, h2, h4⟩
  · match i, hc, hp with
    | 0, hc, hp =>
      cases hc
      cases hp
      exact hb1
  · cases hs : stepO S o with
    | inl e' =>
      have := runO_bad (r := []) hs
      rw [he] at this
      cases this
      exact h.1 e hs H' cls d (e1.trans e2) T2 hE
    | inr z =>
      obtain ⟨S', v⟩ := z
      have := runO_good hs (runO_nil S')
      rw [he] at this
      cases this
  · cases hs : stepO S o with
    | inl e' =>
      have := runO_bad (r := []) hs
      rw [hr] at this
      cases this
    | inr z =>
      obtain ⟨S', v⟩ := z
      have := runO_good hs (runO_nil S')
      rw [hr] at this
      cases this
      obtain ⟨vs, v1, v2, v3⟩ := rr
      obtain ⟨u, hu⟩ : ∃ u, vs[0]? = some u := ⟨_, List.getElem?_eq_getElem (by rw [v2]; exact Nat.zero_lt_one)⟩
      exact hQ r2 vs u H' v1 hu (h.2 S' v hs H' u ((KpP.same s1).trans k2) T2 (by rw [if_neg (by intro z; cases z)] at lv; exact lv) ((un2 (by intro z; cases z)).same s1) (v3 0 u v hu rfl))
/-- the methods of the operations -/
def spMJoin (CL CR CNm CMy CU : Addr) (T : List (Addr × Str)) : Sp := fun vs H Q E => ∃ (x dx : Addr) (ss un : List LS) (S : St2) (n : Str) (st pc : Nat), vs = [.ref x, .str n, .int ((st : Nat) : Int), .int ((pc : Nat) : Int)] ∧ LvIn CL CR T H x dx ss un S ∧ OpOk S (.join n st pc) ∧ AskR CL CR CNm CMy CU T H x dx ss S (.join n st pc) Q E
def spMRem (CL CR CNm CMy CU : Addr) (T : List (Addr × Str)) : Sp := fun vs H Q E => ∃ (x dx : Addr) (ss un : List LS) (S : St2) (n : Str), vs = [.ref x, .str n] ∧ LvIn CL CR T H x dx ss un S ∧ AskR CL CR CNm CMy CU T H x dx ss S (.rem n) Q E
def spMKind (CL CR CNm CMy CU : Addr) (T : List (Addr × Str)) : Sp := fun vs H Q E => ∃ (x dx : Addr) (ss un : List LS) (S : St2) (i : Nat) (b : Bool), vs = [.ref x, .int ((i : Nat) : Int), .str (kindS b)] ∧ LvIn CL CR T H x dx ss un S ∧ OpOk S (.kind i b) ∧ AskR CL CR CNm CMy CU T H x dx ss S (.kind i b) Q E
theorem LvIn.same {CL CR : Addr} {T : List (Addr × Str)} {H H' : Hp} {x dx : Addr} {ss un : List LS} {S : St2} (I : LvIn CL CR T H x dx ss un S) (s : Same H H') : LvIn CL CR T H' x dx ss un S := ⟨I.lv.ext (ExtN.same s), I.last, I.ok, I.tb.ext s, I.few⟩
theorem AskR.same {CL CR CNm CMy CU : Addr} {T : List (Addr × Str)} {H H' : Hp} {x dx : Addr} {ss : List LS} {S : St2} {o : Op} {Q : VK} {E : XK} (h : AskR CL CR CNm CMy CU T H x dx ss S o Q E) (s : Same H H') : AskR CL CR CNm CMy CU T H' x dx ss S o Q E :=
  ⟨fun e he H2 cls d e2 T2 hE => h.1 e he H2 cls d ((ExtN.same s).trans e2) T2 hE, fun S' r he H2 v k T2 lv un rs => h.2 S' r he H2 v ((KpP.same s).trans k) T2 lv (un.same s) rs⟩
theorem LvAt.ins {CL CR : Addr} {H : Hp} {x dx : Addr} {ss un : List LS} (h : LvAt CL CR H x dx ss un) : ∃ fs, H x = some (.ins CL dx fs) ∧ ∀ m : Str, ¬ ("_states" : Str) = m → ¬ ("_undone" : Str) = m → ¬ ("_in_block" : Str) = m → ¬ ("_kept_states" : Str) = m → ¬ ("_kept_undone" : Str) = m → fs.lookup m = none := by
  obtain ⟨sl, ul, ks, ku, h1, _⟩ := h
  exact ⟨_, h1, fun m a b c d e => lv_no _ _ _ _ _ a b c d e⟩
theorem scMJoin : FnScope ["self", "name", "start", "pace"] ["self", "name", "start", "pace"] (defScope sLiveRoadJoin) := ⟨rfl, rfl, rfl, by decide +kernel, rfl, by decide +kernel, by decide +kernel⟩
theorem scMRem : FnScope ["self", "name"] ["self", "name"] (defScope sLiveRoadRemove) := ⟨rfl, rfl, rfl, by decide +kernel, rfl, by decide +kernel, by decide +kernel⟩
theorem scMKind : FnScope ["self", "section", "kind"] ["self", "section", "kind"] (defScope sLiveRoadSetKind) := ⟨rfl, rfl, rfl, by decide +kernel, rfl, by decide +kernel, by decide +kernel⟩
theorem ok_mJoin {f fA CL CR CNm CMy CU CO : Addr} {fd : FuncData} {T : List (Addr × Str)} (F : Fun K "join" "LiveRoad.join" sLiveRoadJoin f fd) (LT : LivT K CL) (MA : Meth K CL "apply" fA) (GA : FnR P w K mg base (L2.CX P w) 10 fA (spApply CL CR CNm CMy CU CO T)) : FnOk P w K mg base (L2.CX P w) 11 f fd ["self", "name", "start", "pace"] (spMJoin CL CR CNm CMy CU T) := by
  refine F.okX scMJoin (fun vs H Q E h => ?_) (fun cdv A outer s H vs Q E hr h => ?_)
  · obtain ⟨x, dx, ss, un, S, n, st, pc, rfl, _⟩ := h
    rfl
  · obtain ⟨x, dx, ss, un, S, n, st, pc, rfl, I, ok, h⟩ := h
    have nd := scMJoin.nd
    refine ⟨_, pss_one (ps_ret (pe_ix (r := rIxL K) ix_list (pe_methR (pv 0) LT.cl MA GA hr (passes_call (takes_of rfl rfl rfl rfl) fun _ _ _ _ h => h) (pa_cons (pe_tup (pa_cons pe_str (pa_cons (pv 1) (pa_cons (pv 2) (pa_cons (pv 3) pa_nil))))) pa_nil)) pe_int (fun _ _ => rfl))), ?_⟩
    obtain ⟨fs, hx, hno⟩ := I.lv.ins
    refine ⟨_, rfl, x, dx, _, rfl, hx, hno _ (by decide +kernel) (by decide +kernel) (by decide +kernel) (by decide +kernel) (by decide +kernel), _, rfl, _, rfl, _, rfl, by show 4 ≤ sizeLine; decide, fun b hb => ?_⟩
    have s1 := sameNew hb (.tup (Op.join n st pc).vs)
    exact ask_apply (CO := CO) (I.same s1) ok upd_same (h.same s1) fun r2 vs v H1 h1 h2 q => ⟨r2, vs, ((0 : Nat) : Int), v, rfl, rfl, SqL.of h1, atI_nat h2, q⟩
theorem ok_mRem {f fA CL CR CNm CMy CU CO : Addr} {fd : FuncData} {T : List (Addr × Str)} (F : Fun K "remove" "LiveRoad.remove" sLiveRoadRemove f fd) (LT : LivT K CL) (MA : Meth K CL "apply" fA) (GA : FnR P w K mg base (L2.CX P w) 10 fA (spApply CL CR CNm CMy CU CO T)) : FnOk P w K mg base (L2.CX P w) 11 f fd ["self", "name"] (spMRem CL CR CNm CMy CU T) := by
  refine F.okX scMRem (fun vs H Q E h => ?_) (fun cdv A outer s H vs Q E hr h => ?_)
  · obtain ⟨x, dx, ss, un, S, n, rfl, _⟩ := h
    rfl
  · obtain ⟨x, dx, ss, un, S, n, rfl, I, h⟩ := h
    have nd := scMRem.nd
    refine ⟨_, pss_one (ps_ret (pe_ix (r := rIxL K) ix_list (pe_methR (pv 0) LT.cl MA GA hr (passes_call (takes_of rfl rfl rfl rfl) fun _ _ _ _ h => h) (pa_cons (pe_tup (pa_cons pe_str (pa_cons (pv 1) pa_nil))) pa_nil)) pe_int (fun _ _ => rfl))), ?_⟩
    obtain ⟨fs, hx, hno⟩ := I.lv.ins
    refine ⟨_, rfl, x, dx, _, rfl, hx, hno _ (by decide +kernel) (by decide +kernel) (by decide +kernel) (by decide +kernel) (by decide +kernel), _, rfl, by show 2 ≤ sizeLine; decide, fun b hb => ?_⟩
    have s1 := sameNew hb (.tup (Op.rem n).vs)
    exact ask_apply (CO := CO) (I.same s1) (o := .rem n) True.intro upd_same (h.same s1) fun r2 vs v H1 h1 h2 q => ⟨r2, vs, ((0 : Nat) : Int), v, rfl, rfl, SqL.of h1, atI_nat h2, q⟩
theorem ok_mKind {f fA CL CR CNm CMy CU CO : Addr} {fd : FuncData} {T : List (Addr × Str)} (F : Fun K "set_kind" "LiveRoad.set_kind" sLiveRoadSetKind f fd) (LT : LivT K CL) (MA : Meth K CL "apply" fA) (GA : FnR P w K mg base (L2.CX P w) 10 fA (spApply CL CR CNm CMy CU CO T)) : FnOk P w K mg base (L2.CX P w) 11 f fd ["self", "section", "kind"] (spMKind CL CR CNm CMy CU T) := by
  refine F.okX scMKind (fun vs H Q E h => ?_) (fun cdv A outer s H vs Q E hr h => ?_)
  · obtain ⟨x, dx, ss, un, S, i, b, rfl, _⟩ := h
    rfl
  · obtain ⟨x, dx, ss, un, S, i, b, rfl, I, ok, h⟩ := h
    have nd := scMKind.nd
    refine ⟨_, pss_one (ps_ret (pe_ix (r := rIxL K) ix_list (pe_methR (pv 0) LT.cl MA GA hr (passes_call (takes_of rfl rfl rfl rfl) fun _ _ _ _ h => h) (pa_cons (pe_tup (pa_cons pe_str (pa_cons (pv 1) (pa_cons (pv 2) pa_nil)))) pa_nil)) pe_int (fun _ _ => rfl))), ?_⟩
    obtain ⟨fs, hx, hno⟩ := I.lv.ins
    refine ⟨_, rfl, x, dx, _, rfl, hx, hno _ (by decide +kernel) (by decide +kernel) (by decide +kernel) (by decide +kernel) (by decide +kernel), _, rfl, _, rfl, by show 3 ≤ sizeLine; decide, fun c hc => ?_⟩
    have s1 := sameNew hc (.tup (Op.kind i b).vs)
    exact ask_apply (CO := CO) (I.same s1) ok upd_same (h.same s1) fun r2 vs v H1 h1 h2 q => ⟨r2, vs, ((0 : Nat) : Int), v, rfl, rfl, SqL.of h1, atI_nat h2, q⟩
end
end Sl

set_option Elab.async false
set_option linter.all false
set_option maxRecDepth 100000
set_option maxHeartbeats 2000000
namespace Sl
open PySem PySem.Spec L2 OwnR LamX
abbrev spCallR2 (C : Addr) : Sp := fun vs H Q E => spCallD C (vs ++ []) H Q E
theorem dfno {W : DW} {m : Str} (a : ¬ m = "_sections") (b : ¬ m = "_paces") (c : ¬ m = "_ticks") (d : ¬ m = "_orders") (e : ¬ m = "_leaders") : (df5 W.sc W.pd W.lt W.lo W.ll).lookup m = none := df5_no _ _ _ _ _ a b c d e
/-- the cars ahead of a car that are still in its section -/
def aheadL (secs : List Sec) (cars : List Car) (s : Nat) (n : Str) (tick : Int) : List Str := ((plcC secs cars s).ord.take (posL n (plcC secs cars s).ord)).filter fun o => decide (tick < (plcC secs cars (s + 1)).tk o)
section
variable {P : Program} {w : World} {K : PySem.W.Frag} {mg : Str → Option Value} {base : Heap}
/-! ### _ahead_inside -/
def spAhead (C : Addr) : Sp := fun vs H Q _ => ∃ (p : Addr) (secs : List Sec) (cars : List Car) (s : Nat) (n : Str) (tick : Int), vs = [.ref p, .int ((s : Nat) : Int), .str n, .int tick] ∧ DA C H p secs cars ∧ CarsOk cars ∧ n ∈ names cars ∧ s < secs.length ∧ ∀ H' l, Same H H' → H' l = some (.lst ((aheadL secs cars s n tick).map V.str)) → Q (.ref l) H'
def nAhead : List Str := ["drive", "section", "name", "tick", "order", "other"]
theorem scAhead : FnScope nAhead ["drive", "section", "name", "tick"] (defScope sAheadInside) := ⟨rfl, rfl, rfl, by decide +kernel, rfl, by decide +kernel, by decide +kernel⟩
theorem ok_ahead {f fO fQ C : Addr} {fd dO dQ : FuncData} (F : Fun K "_ahead_inside" "_ahead_inside" sAheadInside f fd) (R : DriveT K mg C) (BO : Fm K C "order_at" "Drive.order_at" sDOrderAt ["self", "place"] fO dO) (GO : FnOk P w K mg base CX0 3 fO dO ["self", "place"] (spOrderAt C))
    (CO2 : StX.CallO K C fQ) (bQ : Binds K dQ ["self", "name", "place"] []) (GQ : FnOk P w K mg base CX0 3 fQ dQ ["self", "name", "place"] (spCallD C)) : FnOk P w K mg base CX0 4 f fd ["drive", "section", "name", "tick"] (spAhead C) := by
  refine F.ok scAhead (fun vs H Q E h => ?_) (fun cdv A outer s H vs Q E hr h => ?_)
  · obtain ⟨p, secs, cars, i, n, tick, rfl, _⟩ := h
    rfl
  · obtain ⟨p, secs, cars, i, n, tick, rfl, da, CO, hn, hi, k⟩ := h
    have nd := scAhead.nd
    have hr3 : Room 3 (A.deeper (PyProof.Rows.envOfC "_ahead_inside" (defScope sAheadInside) s.heap.objs.size f cdv)) := hr
    refine ⟨_, (pss_cons (ps_set (i := 4) nd rfl (.inl rfl) (pe_meth (pv 0) R.cl BO.at_ GO hr3 BO.bd .nil pass0 (pa_cons (pv 1) pa_nil))) (pss_one (ps_ret (pe_lc (own := [("other", 5)]) (g := gName 5) (tt := tTest (tOp (rI0 fun i j => .bl (decide (j < i))) (tCallH C (spCallR2 C) L2.E0 (tVar 0) (tCons (tVar 5) (tCons (tOp (rI0 fun i j => .int (i + j)) (tVar 1) (tC (.int 1))) tNil))) (tVar 3))) (te := tVar 5) (by rfl) nd (pi_list (pe_slice sl_list (pv 4) po_none (po_some (pe_bm PySem.F.plainAttrs_list PySem.F.slot_list_index PySem.F.type_list_index mt_index (pv 4) (pa_cons (pv 2) pa_nil))))) (blkOk_by (N := nAhead) (sc := defScope sAheadInside) (by decide +kernel))
   (fun _ _ _ _ _ => pg_name (i := 5) nd rfl (Or.inl rfl)) (fun _ _ _ _ _ => pts_one (pt_cmpR op_gt (pe_callH (pv 0) CO2 (GQ.raw bQ .nil) hr3 pass0 (pa_cons (pv 5) (pa_cons (pe_op op_add (pv 1) pe_int) pa_nil))) (pv 3) (nomark _))) (fun _ _ _ _ _ => pv 5))))), ?_⟩
    obtain ⟨_, W, D⟩ := id da
    refine ⟨_, rfl, p, W.dx, _, rfl, D.ins, dfno (by decide +kernel) (by decide +kernel) (by decide +kernel) (by decide +kernel) (by decide +kernel), _, rfl, p, secs, cars, i, rfl, da, by omega, fun q hq => ?_⟩
    have s1 := newS hq (.lst ((plcC secs cars i).ord.map V.str))
    have hq1 : upd H q (.lst ((plcC secs cars i).ord.map V.str)) q = some (.lst ((plcC secs cars i).ord.map V.str)) := upd_same
    have da1 := da.ext (ExtN.same s1)
    generalize upd H q (.lst ((plcC secs cars i).ord.map V.str)) = H1 at s1 hq1 da1 ⊢
    have hno : n ∈ (plcC secs cars i).ord := plc_mem.mpr hn
    have hol : (plcC secs cars i).ord.length ≤ 10 := by rw [plc_len]; exact CO.few
    have hpm : ∀ o ∈ (plcC secs cars i).ord, o ∈ names cars := fun o h => plc_mem.mp h
    have hdef : aheadL secs cars i n tick = ((plcC secs cars i).ord.take (posL n (plcC secs cars i).ord)).filter fun o => decide (tick < (plcC secs cars (i + 1)).tk o) := rfl
    generalize (plcC secs cars i).ord = ord at *
    have hpos : posL n ord ≤ ord.length := by
      have := (List.getElem?_eq_some_iff.mp (posL_at hno)).1
      omega
    refine ⟨_, rfl, _, rfl, .inl ⟨rfl, _, SqL.of hq1⟩, _, rfl, q, ord.map V.str, .str n, posL n ord, .str n, rfl, rfl, SqL.of hq1, rfl, flat_strs _, map_at V.str (posL_at hno), by rw [eqV_str, decide_eq_true rfl], fun m z hm hz => ?_, ?_⟩
    · rw [List.getElem?_map] at hz
      obtain ⟨a, z1, z2⟩ := Option.map_eq_some_iff.mp hz
      rw [← z2, eqV_str, decide_eq_false (posL_not z1 hm)]
    refine ⟨_, rfl, q, _, rfl, SqL.of hq1, fun S hS => ?_⟩
    rw [cut_to (by rw [List.length_map]; exact hpos), ← List.map_take]
    have s6 := newS hS (.lst ((ord.take (posL n ord)).map V.str))
    have hS6 : upd H1 S (.lst ((ord.take (posL n ord)).map V.str)) S = some (.lst ((ord.take (posL n ord)).map V.str)) := upd_same
    have da6 := da1.ext (ExtN.same s6)
    have s16 := s1.trans s6
    generalize upd H1 S (.lst ((ord.take (posL n ord)).map V.str)) = H6 at hS6 da6 s16 ⊢
    have hl : ((ord.take (posL n ord)).map V.str).length = posL n ord := by rw [List.length_map, List.length_take]; omega
    refine ⟨S, rfl, ⟨_, SqL.of hS6⟩, fun D2 hD2 => ?_⟩
    refine lc_it walk_list (fun j H2 => Same H6 H2 ∧ H2 D2 = some (.lst ((((ord.take (posL n ord)).take j).filter fun o => decide (tick < (plcC secs cars (i + 1)).tk o)).map V.str)))
      ⟨newS hD2 _, upd_same⟩ (fun j H2 _ ⟨k2, _⟩ => SqL.of (k2 _ _ hS6)) ?_ ?_
    · rintro j z Hz H2 hj ⟨k2, hD⟩ ⟨e, hz⟩
      subst e
      rw [List.length_map] at hj
      obtain ⟨o, ho⟩ : ∃ o, (ord.take (posL n ord))[j]? = some o := ⟨_, List.getElem?_eq_getElem hj⟩
      obtain rfl : z = V.str o := by
        rw [List.getElem?_map, ho] at hz
        exact (Option.some.inj hz).symm
      have da2 := da6.ext (ExtN.same k2)
      obtain ⟨_, W2, D3⟩ := id da2
      have hom := hpm o (List.mem_of_mem_take (List.mem_of_getElem? ho))
      refine ⟨rfl, ?_⟩
      refine ⟨_, rfl, p, rfl, _, rfl, _, rfl, _, _, rfl, rfl, .inr ⟨_, _, D3.ins⟩, p, secs, cars, o, i + 1, _, rfl, da2, hom, by omega, .inr ?_, _, rfl, _, _, rfl, rfl, _, rfl, ?_⟩
      · congr 1
      have e1 : ((ord.take (posL n ord)).take (j + 1)).filter (fun o => decide (tick < (plcC secs cars (i + 1)).tk o)) = ((ord.take (posL n ord)).take j).filter (fun o => decide (tick < (plcC secs cars (i + 1)).tk o)) ++ (if tick < (plcC secs cars (i + 1)).tk o then [o] else []) := by
        rw [tk1 ho, List.filter_append]
        by_cases h : tick < (plcC secs cars (i + 1)).tk o <;> simp [h]
      rw [e1]
      by_cases h : tick < (plcC secs cars (i + 1)).tk o
      · rw [decide_eq_true h, if_pos h]
        refine iteT ⟨_, rfl, _, hD, ?_, fun b o e => by rw [upd_ne (ne_of_none e hD2)]; exact k2 _ _ e, ?_⟩
        · have := List.length_filter_le (fun o => decide (tick < (plcC secs cars (i + 1)).tk o)) ((ord.take (posL n ord)).take j)
          rw [List.length_take, List.length_take] at this
          rw [List.length_map]
          exact small1000 (by omega)
        · rw [upd_same, List.map_append]
          rfl
      · rw [decide_eq_false h, if_neg h, List.append_nil]
        exact iteF ⟨k2, hD⟩
    rintro H2 ⟨k2, hD⟩
    rw [List.length_map, List.take_length, ← hdef] at hD
    exact k H2 D2 (s16.trans k2) hD
/-! ### _least -/
abbrev Fr : Type := Int × Int
def frV (q : Fr) : List V := [.int q.1, .int q.2]
def lessF (a b : Fr) : Fr := if b.1 * a.2 < a.1 * b.2 then b else a
def leastF (f : Fr) (l : List Fr) : Fr := l.foldl lessF f
def spLeast : Sp := fun vs H Q _ => ∃ (a : Addr) (f : Fr) (l : List Fr), vs = [.ref a] ∧ TupsAt H a ((f :: l).map frV) ∧ (f :: l).length ≤ 100 ∧ (∀ q ∈ f :: l, 0 < q.2 ∧ q.2 ≤ 60) ∧ ∀ H' t, Same H H' → H' t = some (.tup (frV (leastF f (f :: l)))) → Q (.ref t) H'
def nLeast : List Str := ["fractions", "least", "numerator", "denominator"]
theorem scLeast : FnScope nLeast ["fractions"] (defScope sLeast) := ⟨rfl, rfl, rfl, by decide +kernel, rfl, by decide +kernel, by decide +kernel⟩
theorem least_in {P : Fr → Prop} : ∀ {l : List Fr} {f : Fr}, P f → (∀ q ∈ l, P q) → P (leastF f l)
  | [], _, h, _ => h
  | q :: l, f, h, hl => least_in (l := l) (f := lessF f q) (by unfold lessF; split; exact hl q List.mem_cons_self; exact h) fun r hr => hl r (List.mem_cons_of_mem _ hr)
theorem least_snoc (f : Fr) (l : List Fr) (q : Fr) : leastF f (l ++ [q]) = lessF (leastF f l) q := by
  unfold leastF
  rw [List.foldl_append]
  rfl
theorem ok_least {f : Addr} {fd : FuncData} (F : Fun K "_least" "_least" sLeast f fd) : FnOk P w K mg base CX0 1 f fd ["fractions"] spLeast := by
  refine F.ok scLeast (fun vs H Q E h => ?_) (fun cdv A outer s H vs Q E hr h => ?_)
  · obtain ⟨a, f, l, rfl, _⟩ := h
    rfl
  · obtain ⟨a, q0, l, rfl, ⟨ts, h1, h2, h3⟩, few, hp, k⟩ := h
    have nd := scLeast.nd
    refine ⟨_, (pss_cons (ps_set (i := 1) nd rfl (.inl rfl) (pe_ix (r := rIxL K) ix_list (pv 0) pe_int (fun _ _ => rfl))) (pss_cons (ps_for PassesOwn.never rfl (pi_list (pv 0)) (pg_tup rfl (pgs_cons (pg_name (i := 2) nd rfl (.inl rfl)) (pgs_cons (pg_name (i := 3) nd rfl (.inl rfl)) pgs_nil))) (pss_one (ps_if (pt_cmpR op_lt (pe_op op_mul (pv 2) (pe_ix (r := rIxT K) ix_tup (pv 1) pe_int (fun _ _ => rfl))) (pe_op op_mul (pe_ix (r := rIxT K) ix_tup (pv 1) pe_int (fun _ _ => rfl)) (pv 3)) (nomark _)) (pss_one (ps_set (i := 1) nd rfl (.inl rfl) (pe_tup (pa_cons (pv 2) (pa_cons (pv 3) pa_nil))))) pss_nil))) (pss_one (ps_ret (pv 1))))), ?_⟩
    have h2 : ts.length = (q0 :: l).length := by rw [h2, List.length_map]
    have hl : (ts.map V.ref).length = (q0 :: l).length := by rw [List.length_map, h2]
    have at3 : ∀ (i : Nat) (t : Addr) (q : Fr), ts[i]? = some t → (q0 :: l)[i]? = some q → H t = some (.tup (frV q)) := fun i t q e1 e2 => h3 i t _ e1 (by rw [List.getElem?_map, e2]; rfl)
    obtain ⟨t0, ht0⟩ : ∃ t, ts[0]? = some t := ⟨_, List.getElem?_eq_getElem (by rw [h2]; show 0 < l.length + 1; omega)⟩
    refine ⟨_, rfl, a, _, ((0 : Nat) : Int), .ref t0, rfl, rfl, SqL.of h1, atI_nat (map_at V.ref ht0), ?_⟩
    refine ⟨_, rfl, a, rfl, ⟨_, SqL.of h1⟩, for_it walk_list (fun i σ H1 => ∃ (t : Addr) (v2 v3 : Option V), σ = [some (.ref a), some (.ref t), v2, v3] ∧ Same H H1 ∧ H1 t = some (.tup (frV (leastF q0 ((q0 :: l).take i)))))
      ⟨t0, none, none, rfl, fun _ _ z => z, at3 0 t0 q0 ht0 rfl⟩ (fun _ _ _ _ ⟨_, _, _, _, s1, _⟩ => SqL.of (s1 _ _ h1)) ?_ ?_⟩
    · rintro i y σ Hz H1 hi ⟨t, v2, v3, rfl, s1, ht⟩ ⟨e, hy⟩
      subst e
      rw [hl] at hi
      obtain ⟨q, hq⟩ : ∃ q, (q0 :: l)[i]? = some q := ⟨_, List.getElem?_eq_getElem hi⟩
      obtain ⟨u, hu⟩ : ∃ u, ts[i]? = some u := ⟨_, List.getElem?_eq_getElem (by omega)⟩
      obtain rfl : y = V.ref u := by
        rw [List.getElem?_map, hu] at hy
        exact (Option.some.inj hy).symm
      have hut := s1 _ _ (at3 i u q hu hq)
      have hb := hp q (List.mem_of_getElem? hq)
      have hc := least_in (P := fun q : Fr => 0 < q.2 ∧ q.2 ≤ 60) (hp q0 List.mem_cons_self) (l := (q0 :: l).take i) fun r hr => hp r (List.mem_of_mem_take hr)
      rw [tk1 hq, least_snoc]
      generalize leastF q0 ((q0 :: l).take i) = m at ht hc ⊢
      refine ⟨u, _, rfl, SqT.of hut, rfl, _, _, rfl, _, _, rfl, rfl, ?_⟩
      refine ⟨_, rfl, _, rfl, t, _, ((1 : Nat) : Int), .int m.2, rfl, rfl, SqT.of ht, atI_nat rfl, _, _, rfl, rfl, .inr ⟨by omega, by omega⟩, ?_⟩
      refine ⟨_, rfl, t, _, ((0 : Nat) : Int), .int m.1, rfl, rfl, SqT.of ht, atI_nat rfl, _, rfl, _, _, rfl, rfl, .inr ⟨by omega, by omega⟩, _, _, rfl, rfl, _, rfl, ?_⟩
      by_cases h : q.1 * m.2 < m.1 * q.2
      · rw [decide_eq_true h]
        refine iteT ⟨_, rfl, _, rfl, by show 2 ≤ sizeLine; decide, fun x hx => ?_⟩
        exact ⟨x, _, _, rfl, s1.trans (newS hx _), by unfold lessF; rw [if_pos h]; exact upd_same⟩
      · rw [decide_eq_false h]
        exact iteF ⟨t, _, _, rfl, s1, by unfold lessF; rw [if_neg h]; exact ht⟩
    · rintro σ H1 ⟨t, v2, v3, rfl, s1, ht⟩
      rw [hl, List.take_length] at ht
      exact ⟨_, rfl, k H1 t s1 ht⟩
end
end Sl

set_option Elab.async false
set_option linter.all false
set_option maxRecDepth 100000
set_option maxHeartbeats 4000000
namespace Sl
open PySem PySem.Spec L2 OwnR LamX
theorem ip_ext {X : Cx} : PIp X .Add rExt2 := fun pins s σ H x y v u Q I rx ry h => iop_ext pins s σ H x y v u Q I rx ry h
abbrev spGetR (C : Addr) : Sp := fun vs H Q E => spGet C (vs ++ []) H Q E
/-! ### where a car is -/
/-- the places that a car has passed at a tick -/
def passL (secs : List Sec) (cars : List Car) (n : Str) (tick : Int) (k : Nat) : List Nat := (List.range k).filter fun i => decide ((plcC secs cars i).tk n ≤ tick)
def unitsTo (secs : List Sec) (s : Nat) : Int := ((secs.take s).map fun x => ((x.2 : Nat) : Int)).sum
def ownF (secs : List Sec) (cars : List Car) (s : Nat) (tick : Int) (o : Str) : Fr := (tick - (plcC secs cars s).tk o, paceOf cars o)
def limL (secs : List Sec) (cars : List Car) (s : Nat) (n : Str) (tick : Int) : List Str := if (secs.getD s (false, 1)).1 then [] else aheadL secs cars s n tick
def redF (f : Fr) : Fr := (f.1 / ((Nat.gcd f.1.natAbs f.2.natAbs : Nat) : Int), f.2 / ((Nat.gcd f.1.natAbs f.2.natAbs : Nat) : Int))
def addU (u : Int) (f : Fr) : Fr := (f.1 + u * f.2, f.2)
def bestF (secs : List Sec) (cars : List Car) (s : Nat) (n : Str) (tick : Int) : Fr := leastF (ownF secs cars s tick n) ((n :: limL secs cars s n tick).map (ownF secs cars s tick))
def posF (secs : List Sec) (cars : List Car) (n : Str) (tick : Int) : Fr := match (passL secs cars n tick (secs.length + 1)).getLast? with
  | none => (0, 1)
  | some s => if s = secs.length then (unitsTo secs s, 1) else redF (addU (unitsTo secs s) (bestF secs cars s n tick))
section
variable {P : Program} {w : World} {K : PySem.W.Frag} {mg : Str → Option Value} {base : Heap}
def spPosAt (CR : Addr) (T : List (Addr × Str)) : Sp := fun vs H Q _ => ∃ (p a : Addr) (secs : List Sec) (cars : List Car) (n : Str) (tick : Int), vs = [.ref p, .ref a, .str n, .int tick] ∧ RoadAt CR H p secs ∧ CarsAt H a cars ∧ SecsOk secs ∧ CarsOk cars ∧ n ∈ names cars ∧ Tabs T H ∧
  ∀ H' t, ExtN H H' → Tabs T H' → H' t = some (.tup (frV (posF secs cars n tick))) → Q (.ref t) H'
def nPosAt : List Str := ["road", "cars", "name", "tick", "drive", "passed", "section", "units", "limits", "paces", "numerator", "denominator", "common", "place", "passing", "kind", "length", "car", "start", "pace"]
theorem scPosAt : FnScope nPosAt ["road", "cars", "name", "tick"] (defScope sPositionAt) := ⟨rfl, rfl, rfl, by decide +kernel, rfl, by decide +kernel, by decide +kernel⟩
theorem ok_posAt {f fI fP fG fA fL fQ CR C lp kp pp : Addr} {fd dI dP dG dA dL dQ : FuncData} {T : List (Addr × Str)} (F : Fun K "position_at" "position_at" sPositionAt f fd) (M : Mg mg) (R : DriveT K mg C) (RR : RoadT K w mg CR lp kp)
    (mgcd : mg "gcd" = some (.builtin "math.gcd")) (MI : Mk K C fI) (bI : Binds K dI ["self", "road", "cars"] []) (GI : FnOk P w K mg base CX0 5 fI dI ["self", "road", "cars"] (spDInit CR C T))
    (PO : PropOf K CR "sections" pp fP) (bP : Binds K dP ["self"] []) (GP : FnOk P w K mg base CX0 1 fP dP ["self"] (getSp CR "_sections"))
    (sG : PySem.W.findIn K (.ref C) "__getitem__" = some (some (.ref fG))) (iG : PySem.W.isFn K (.ref fG) = true) (jG : PySem.W.fnIn K fG = true) (bG : Binds K dG ["self", "at"] []) (GG : FnOk P w K mg base CX0 3 fG dG ["self", "at"] (spGet C))
    (BA : Fb K mg "_ahead_inside" sAheadInside ["drive", "section", "name", "tick"] fA dA) (GA : FnOk P w K mg base CX0 4 fA dA ["drive", "section", "name", "tick"] (spAhead C))
    (BL : Fb K mg "_least" sLeast ["fractions"] fL dL) (GL : FnOk P w K mg base CX0 1 fL dL ["fractions"] spLeast)
    (CO2 : StX.CallO K C fQ) (bQ : Binds K dQ ["self", "name", "place"] []) (GQ : FnOk P w K mg base CX0 3 fQ dQ ["self", "name", "place"] (spCallD C)) : FnOk P w K mg base CX0 7 f fd ["road", "cars", "name", "tick"] (spPosAt CR T) := by
  refine F.ok scPosAt (fun vs H Q E h => ?_) (fun cdv A outer s H vs Q E hr h => ?_)
  · obtain ⟨p, a, secs, cars, n, tick, rfl, _⟩ := h
    rfl
  · obtain ⟨p, a, secs, cars, n, tick, rfl, rd, ct, SO, CO, hn, hT, k⟩ := h
    have nd := scPosAt.nd
    have hu := hu_of hr
    have room : ∀ m, m ≤ 6 → Room m (A.deeper (PyProof.Rows.envOfC "position_at" (defScope sPositionAt) s.heap.objs.size f cdv)) := fun m h => hr.mono h
    have hr1 := room 1 (by decide)
    have hr2 := room 2 (by decide)
    have hr3 := room 3 (by decide)
    have hr4 : Room (3 + 1) (A.deeper (PyProof.Rows.envOfC "position_at" (defScope sPositionAt) s.heap.objs.size f cdv)) := room 4 (by decide)
    refine ⟨_, (pss_cons (ps_set (i := 4) nd rfl (.inr rfl) (pe_make MI GI hr (by rfl) R.mgC bI .nil pass0 (pa_cons (pv 0) (pa_cons (pv 1) pa_nil)))) (pss_cons (ps_setLc (i := 5) (own := [("place", 13), ("passing", 14)]) (g := gTup K 2 (gCons (gName 13) (gCons (gName 14) gNil))) (tt := tTest (tOp (rI0 fun i j => .bl (decide (i ≤ j))) (tVar 14) (tVar 3))) (te := tVar 13) (by rfl) nd rfl rfl (sw_true rfl rfl rfl (by decide +kernel)) (pi_enumT (by rfl) M.enumerate (pa_cons (pe_subO sG iG jG (GG.raw bG .nil) hr4 pass0 (pv 4) (pv 2) (fun _ _ => rfl)) pa_nil)) (blkOk_by (N := nPosAt) (sc := defScope sPositionAt) (by decide +kernel)) (fun _ _ _ _ _ => pg_tup rfl (pgs_cons (pg_name (i := 13) nd rfl (Or.inl rfl)) (pgs_cons (pg_name (i := 14) nd rfl (Or.inl rfl)) pgs_nil))) (fun _ _ _ _ _ => pts_one (pt_cmpR op_le (pv 14) (pv 3) (nomark _))) (fun _ _ _ _ _ => pv 13)) (pss_cons (ps_if (pt_not (pt_truth (pv 5) (by intro _; rfl))) (pss_one (ps_ret (pe_tup (pa_cons pe_int (pa_cons pe_int pa_nil))))) pss_nil) (pss_cons (ps_set (i := 6) nd rfl (.inr rfl) (pe_ix (r := rIxL K) ix_list (pv 5) (pe_un un_neg pe_int) (fun _ _ => rfl))) (pss_cons (ps_set (i := 7) nd rfl (.inl rfl) (pe_callB (cr_sum rfl) (by rfl) M.sum PyProof.Rows.boot_sum (pa_cons (pe_lc (own := [("kind", 15), ("length", 16)]) (g := gTup K 2 (gCons (gName 15) (gCons (gName 16) gNil))) (tt := tYes) (te := tVar 16) (by rfl) nd (pi_tup (pe_slice sl_tupA (pe_prop (pv 0) RR.cl PO GP hr2 bP .nil pass0 rfl) po_none (po_some (pv 6)))) (blkOk_by (N := nPosAt) (sc := defScope sPositionAt) (by decide +kernel)) (fun _ _ _ _ _ => pg_tup rfl (pgs_cons (pg_name (i := 15) nd rfl (Or.inl rfl)) (pgs_cons (pg_name (i := 16) nd rfl (Or.inl rfl)) pgs_nil))) (fun _ _ _ _ _ => pts_nil) (fun _ _ _ _ _ => pv 16)) pa_nil))) (pss_cons (ps_if (pt_cmpR op_eq (pv 6) (pe_callB call_len_seq (by rfl) M.len boot_len (pa_cons (pe_prop (pv 0) RR.cl PO GP hr2 bP .nil pass0 rfl) pa_nil)) (nomark _)) (pss_one (ps_ret (pe_tup (pa_cons (pv 7) (pa_cons pe_int pa_nil))))) pss_nil) (pss_cons (ps_set (i := 8) nd rfl (.inl rfl) (pe_lst (pa_cons (pv 2) pa_nil))) (pss_cons (ps_if (pt_cmpR op_eq (pe_ix (r := rIxT K) ix_tup (pe_ix (r := rIxT K) ix_tup (pe_prop (pv 0) RR.cl PO GP hr2 bP .nil pass0 rfl) (pv 6) (fun _ _ => rfl)) pe_int (fun _ _ => rfl)) pe_str (nomark _)) (pss_one (ps_aug (i := 8) nd rfl (.inl rfl) (pe_call GA hr4 (by rfl) BA.at_ BA.fn.kp BA.bd .nil pass0 (pa_cons (pv 4) (pa_cons (pv 6) (pa_cons (pv 2) (pa_cons (pv 3) pa_nil))))) ip_ext)) pss_nil) (pss_cons (ps_set (i := 9) nd rfl (.inr rfl) (pe_dc (own := [("car", 17), ("start", 18), ("pace", 19)]) (g := gTup K 3 (gCons (gName 17) (gCons (gName 18) (gCons (gName 19) gNil)))) (tt := tYes) (by rfl) nd (pi_tup (pv 1)) (blkOk_by (N := nPosAt) (sc := defScope sPositionAt) (by decide +kernel)) (fun _ _ _ _ _ => pg_tup rfl (pgs_cons (pg_name (i := 17) nd rfl (Or.inl rfl)) (pgs_cons (pg_name (i := 18) nd rfl (Or.inl rfl)) (pgs_cons (pg_name (i := 19) nd rfl (Or.inl rfl)) pgs_nil)))) (fun _ _ _ _ _ => pts_nil) (fun _ _ _ _ _ => pv 17) (fun _ _ _ _ _ => pv 19))) (pss_cons (ps_asg (pe_call GL hr1 (by rfl) BL.at_ BL.fn.kp BL.bd .nil pass0 (pa_cons (pe_lc (own := [("car", 17)]) (g := gName 17) (tt := tYes) (te := tTup (tCons (tOp (rI0 fun i j => .int (i - j)) (tVar 3) (tCallH C (spCallR2 C) L2.E0 (tVar 4) (tCons (tVar 17) (tCons (tVar 6) tNil)))) (tCons (tDGet (tVar 9) (tVar 17)) tNil))) (by rfl) nd (pi_list (pv 8)) (blkOk_by (N := nPosAt) (sc := defScope sPositionAt) (by decide +kernel)) (fun _ _ _ _ _ => pg_name (i := 17) nd rfl (Or.inl rfl)) (fun _ _ _ _ _ => pts_nil) (fun _ _ _ _ _ => pe_tup (pa_cons (pe_op op_sub (pv 3) (pe_callH (pv 4) CO2 (GQ.raw bQ .nil) hr3 pass0 (pa_cons (pv 17) (pa_cons (pv 6) pa_nil)))) (pa_cons (pe_dget hu (pv 9) (pv 17) (fun _ _ => rfl)) pa_nil)))) pa_nil)) (pg_tup rfl (pgs_cons (pg_name (i := 10) nd rfl (.inl rfl)) (pgs_cons (pg_name (i := 11) nd rfl (.inl rfl)) pgs_nil)))) (pss_cons (ps_aug (i := 10) nd rfl (.inl rfl) (pe_op op_mul (pv 7) (pv 11)) ip_add) (pss_cons (ps_set (i := 12) nd rfl (.inl rfl) (pe_callBfun cr_gcd (by rfl) mgcd (pa_cons (pv 10) (pa_cons (pv 11) pa_nil)))) (pss_one (ps_ret (pe_tup (pa_cons (pe_op op_fdiv (pv 10) (pv 12)) (pa_cons (pe_op op_fdiv (pv 11) (pv 12)) pa_nil))))))))))))))))), ?_⟩
    refine ⟨_, rfl, _, rfl, fun dv dx hdv hdx ndx => mk_drive rd ct SO CO hT hdv hdx fun H1 e1 T1 da1 => ⟨rfl, ?_⟩⟩
    obtain ⟨_, W1, D1⟩ := id da1
    have few := SO.few
    -- the places that it has passed
    refine ⟨_, rfl, _, rfl, dv, W1.dx, _, rfl, D1.ins, dv, secs, cars, n, rfl, da1, hn, few, fun H2 t2 s2 ht2 => ⟨t2, _, rfl, SqT.of ht2, fun D hD => ?_⟩⟩
    have tkl2 : (tksL secs cars n).length = secs.length + 1 := by unfold tksL; rw [List.length_map, List.length_range]
    refine lc_it walk_enumT (fun i H3 => Same H2 H3 ∧ H3 D = some (.lst ((passL secs cars n tick i).map fun k => V.int ((k : Nat) : Int))))
      ⟨newS hD _, upd_same⟩ (fun i H3 _ ⟨k3, _⟩ => SqT.of (k3 _ _ ht2)) ?_ ?_
    · rintro i y H3 H4 hi ⟨k3, hD3⟩ ⟨Tt, x1, x2, rfl, hTt, rfl, e1', e2'⟩
      cases e1'
      have hi2 : i < secs.length + 1 := by rw [List.length_map, tkl2] at hi; exact hi
      have e2' : ((tksL secs cars n).map V.int)[i]? = some x2 := e2'
      have hx2 : ((tksL secs cars n).map V.int)[i]? = some (V.int ((plcC secs cars i).tk n)) := by
        unfold tksL
        rw [List.getElem?_map, List.getElem?_map, List.getElem?_range hi2]
        rfl
      obtain rfl : V.int ((plcC secs cars i).tk n) = x2 := Option.some.inj (hx2.symm.trans e2')
      have sT := newS hTt (.tup [V.int ((i : Nat) : Int), V.int ((plcC secs cars i).tk n)])
      have hD4 := sT _ _ hD3
      have k4 := k3.trans sT
      refine ⟨Tt, _, rfl, SqT.of upd_same, rfl, _, _, rfl, _, _, rfl, rfl, rfl, ?_⟩
      generalize upd H3 Tt (.tup [V.int ((i : Nat) : Int), V.int ((plcC secs cars i).tk n)]) = H4 at hD4 k4 ⊢
      refine ⟨_, rfl, _, rfl, _, _, rfl, rfl, _, rfl, ?_⟩
      have e3 : passL secs cars n tick (i + 1) = passL secs cars n tick i ++ (if (plcC secs cars i).tk n ≤ tick then [i] else []) := by
        unfold passL
        rw [List.range_succ, List.filter_append]
        by_cases h : (plcC secs cars i).tk n ≤ tick <;> simp [h]
      rw [e3]
      by_cases h : (plcC secs cars i).tk n ≤ tick
      · rw [decide_eq_true h, if_pos h]
        refine iteT ⟨_, rfl, _, hD4, ?_, fun b o e => by rw [upd_ne (ne_of_none e hD)]; exact k4 _ _ e, ?_⟩
        · have := List.length_filter_le (fun i => decide ((plcC secs cars i).tk n ≤ tick)) (List.range i)
          rw [List.length_range] at this
          unfold passL
          rw [List.length_map]
          exact small1000 (by omega)
        · rw [upd_same, List.map_append]
          rfl
      · rw [decide_eq_false h, if_neg h, List.append_nil]
        exact iteF ⟨k4, hD4⟩
    rintro H3 ⟨k3, hD3⟩
    rw [List.length_map, tkl2] at hD3
    have s13 := s2.trans k3
    have e3 := e1.trans (ExtN.same s13)
    have T3 := T1.ext s13
    have da3 := da1.ext (ExtN.same s13)
    have rd3 := rd.ext e3
    have ct3 := ct.ext e3
    have hDH : New H D := New.ext (e1.trans (ExtN.same s2)) (New.of hD)
    clear D1 W1 e1 T1 da1 s2 k3 s13 ht2 hD tkl2
    rcases List.eq_nil_or_concat (passL secs cars n tick (secs.length + 1)) with eL | ⟨pre, sx, eL⟩
    · rw [eL] at hD3
      refine ⟨_, rfl, false, .inl ⟨_, SqL.of hD3, rfl⟩, iteT ?_⟩
      refine ⟨by show 2 ≤ sizeLine; decide, fun t ht => ?_⟩
      have s4 := newS ht (.tup [V.int 0, V.int 1])
      refine k _ t (e3.trans (ExtN.same s4)) (T3.ext s4) ?_
      rw [upd_same]
      unfold posF
      rw [eL]
      rfl
    rw [List.concat_eq_append] at eL
    have hsx : sx ≤ secs.length := by
      have : sx ∈ passL secs cars n tick (secs.length + 1) := by rw [eL]; exact List.mem_append_right _ List.mem_cons_self
      have := List.mem_range.mp (List.mem_filter.mp this).1
      omega
    have ePos : posF secs cars n tick = if sx = secs.length then (unitsTo secs sx, 1) else redF (addU (unitsTo secs sx) (bestF secs cars sx n tick)) := by
      unfold posF
      rw [eL, List.getLast?_append]
      rfl
    rw [eL, List.map_append] at hD3
    have ne0 : (!((pre.map fun k => V.int ((k : Nat) : Int)) ++ [V.int ((sx : Nat) : Int)]).isEmpty) = true := by cases pre <;> rfl
    refine ⟨_, rfl, true, .inl ⟨_, SqL.of hD3, ne0.symm⟩, iteF ?_⟩
    refine ⟨_, rfl, _, rfl, D, _, _, .int ((sx : Nat) : Int), rfl, rfl, SqL.of hD3, atI_last _ _, ?_⟩
    -- the units of the sections before
    obtain ⟨rx, rt, ru, hp3, ⟨us, u1, u2, u3⟩, hu3⟩ := id rd3
    have hul : (us.map V.ref).length = secs.length := by rw [List.length_map, u2]
    refine gname_to ?_
    dsimp only
    refine seq_cut (fun σ' H' => σ' = [some (.ref p), some (.ref a), some (.str n), some (.int tick), some (.ref dv), some (.ref D), some (.int ((sx : Nat) : Int)), some (.int (unitsTo secs sx)), none, none, none, none, none, none, none, none, none, none, none, none] ∧ Same H3 H') (fun nx done => ?_) ?_
    · refine ⟨_, rfl, p, rx, _, rfl, hp3, p, rx, _, _, rfl, hp3, rf_sections _ _, _, rfl, _, rfl, rt, us.map V.ref, rfl, SqT.of u1, fun hfull => ?_, fun hpart q hq => ?_⟩
      · have hs : sx = secs.length := by
          have := hfull.2
          rw [HT.sIx_nat, hul] at this
          omega
        have sx4 : Same H3 H3 := fun _ _ z => z
        have hq4 : H3 rt = some (.tup ((us.take sx).map V.ref)) := by rw [List.take_of_length_le (by omega)]; exact u1
        refine ⟨rt, rfl, ⟨_, SqT.of hq4⟩, fun D2 hD2 => ?_⟩
        have hql : ((us.take sx).map V.ref).length = sx := by rw [List.length_map, List.length_take]; omega
        refine lc_it walk_tup (fun i H5 => Same H3 H5 ∧ H5 D2 = some (.lst (((secs.take i).map fun x => ((x.2 : Nat) : Int)).map V.int)))
          ⟨newS hD2 _, upd_same⟩ (fun i H5 _ ⟨k5, _⟩ => SqT.of (k5 _ _ hq4)) ?_ ?_
        · rintro i y Hz H5 hi ⟨k5, hD5⟩ ⟨e, hy⟩
          subst e
          rw [hql] at hi
          have hi2 : i < secs.length := by omega
          obtain ⟨tt, htt⟩ : ∃ t, us[i]? = some t := ⟨_, List.getElem?_eq_getElem (by omega)⟩
          obtain rfl : y = V.ref tt := by
            rw [List.getElem?_map, List.getElem?_take_of_lt hi, htt] at hy
            exact (Option.some.inj hy).symm
          obtain ⟨sc, hsc⟩ : ∃ s, secs[i]? = some s := ⟨_, List.getElem?_eq_getElem hi2⟩
          refine ⟨tt, _, rfl, SqT.of (k5 _ _ (sx4 _ _ (u3 i tt sc htt hsc))), rfl, _, _, rfl, _, _, rfl, rfl, rfl, yes_of ?_⟩
          refine ⟨_, rfl, _, hD5, by rw [List.length_map, List.length_map, List.length_take]; exact small1000 (by omega), fun b o e => by rw [upd_ne (ne_of_none e hD2)]; exact k5 _ _ e, ?_⟩
          rw [upd_same, tk1 hsc, List.map_append, List.map_append]
          rfl
        rintro H5 ⟨k5, hD5⟩
        rw [hql] at hD5
        exact ⟨D2, _, rfl, SqL.of hD5, done _ _ ⟨rfl, sx4.trans k5⟩⟩
      · have sx4 := newS hq (.tup (cutV (us.map V.ref) none (some ((sx : Nat) : Int))))
        have hq4 : upd H3 q (.tup (cutV (us.map V.ref) none (some ((sx : Nat) : Int)))) q = some (.tup ((us.take sx).map V.ref)) := by rw [upd_same, cut_to (by omega), List.map_take]
        generalize upd H3 q (.tup (cutV (us.map V.ref) none (some ((sx : Nat) : Int)))) = H4 at hq4 sx4 ⊢
        refine ⟨q, rfl, ⟨_, SqT.of hq4⟩, fun D2 hD2 => ?_⟩
        have hql : ((us.take sx).map V.ref).length = sx := by rw [List.length_map, List.length_take]; omega
        refine lc_it walk_tup (fun i H5 => Same H4 H5 ∧ H5 D2 = some (.lst (((secs.take i).map fun x => ((x.2 : Nat) : Int)).map V.int)))
          ⟨newS hD2 _, upd_same⟩ (fun i H5 _ ⟨k5, _⟩ => SqT.of (k5 _ _ hq4)) ?_ ?_
        · rintro i y Hz H5 hi ⟨k5, hD5⟩ ⟨e, hy⟩
          subst e
          rw [hql] at hi
          have hi2 : i < secs.length := by omega
          obtain ⟨tt, htt⟩ : ∃ t, us[i]? = some t := ⟨_, List.getElem?_eq_getElem (by omega)⟩
          obtain rfl : y = V.ref tt := by
            rw [List.getElem?_map, List.getElem?_take_of_lt hi, htt] at hy
            exact (Option.some.inj hy).symm
          obtain ⟨sc, hsc⟩ : ∃ s, secs[i]? = some s := ⟨_, List.getElem?_eq_getElem hi2⟩
          refine ⟨tt, _, rfl, SqT.of (k5 _ _ (sx4 _ _ (u3 i tt sc htt hsc))), rfl, _, _, rfl, _, _, rfl, rfl, rfl, yes_of ?_⟩
          refine ⟨_, rfl, _, hD5, by rw [List.length_map, List.length_map, List.length_take]; exact small1000 (by omega), fun b o e => by rw [upd_ne (ne_of_none e hD2)]; exact k5 _ _ e, ?_⟩
          rw [upd_same, tk1 hsc, List.map_append, List.map_append]
          rfl
        rintro H5 ⟨k5, hD5⟩
        rw [hql] at hD5
        exact ⟨D2, _, rfl, SqL.of hD5, done _ _ ⟨rfl, sx4.trans k5⟩⟩
    rintro σ' H4 ⟨rfl, s34⟩
    have e4 := e3.trans (ExtN.same s34)
    have T4 := T3.ext s34
    have da4 := da3.ext (ExtN.same s34)
    have ct4 := ct3.ext (ExtN.same s34)
    have hp4 := s34 _ _ hp3
    have u14 := s34 _ _ u1
    have u34 : ∀ (i : Nat) (t : Addr) (s : Sec), us[i]? = some t → secs[i]? = some s → H4 t = some (.tup (secV s)) := fun i t s e1 e2 => s34 _ _ (u3 i t s e1 e2)
    clear s34 e3 T3 da3 ct3 hp3 u1 u3 hu3 hD3 rd3 ne0 eL
    -- behind the last section
    refine ⟨_, rfl, _, rfl, p, rx, _, rfl, hp4, p, rx, _, _, rfl, hp4, rf_sections _ _, rt, _, rfl, .inr (SqT.of u14), rfl, _, rfl, ?_⟩
    rw [hul]
    by_cases hs : sx = secs.length
    · rw [show decide (V.int ((sx : Nat) : Int) = V.int ((secs.length : Nat) : Int)) = true by rw [hs]; exact decide_eq_true rfl]
      refine iteT ⟨_, rfl, by show 2 ≤ sizeLine; decide, fun t ht => ?_⟩
      have s5 := newS ht (.tup [V.int (unitsTo secs sx), V.int 1])
      refine k _ t (e4.trans (ExtN.same s5)) (T4.ext s5) ?_
      rw [upd_same, ePos, if_pos hs]
      rfl
    have hne : ¬ V.int ((sx : Nat) : Int) = V.int ((secs.length : Nat) : Int) := fun z => hs (by injection z with z; omega)
    rw [decide_eq_false hne]
    rw [if_neg hs] at ePos
    have hsl : sx < secs.length := by omega
    refine iteF ⟨_, rfl, by show 1 ≤ sizeLine; decide, fun Lm hLm => ?_⟩
    have s5 := newS hLm (.lst [V.str n])
    have hLm5 : upd H4 Lm (.lst [V.str n]) Lm = some (.lst [V.str n]) := upd_same
    have da5 := da4.ext (ExtN.same s5)
    have hp5 := s5 _ _ hp4
    have u15 := s5 _ _ u14
    have u35 : ∀ (i : Nat) (t : Addr) (s : Sec), us[i]? = some t → secs[i]? = some s → upd H4 Lm (.lst [V.str n]) t = some (.tup (secV s)) := fun i t s e1 e2 => s5 _ _ (u34 i t s e1 e2)
    refine gname_to ?_
    dsimp only
    generalize upd H4 Lm (.lst [V.str n]) = H5 at s5 hLm5 da5 hp5 u15 u35 ⊢
    clear hp4 u14 u34
    -- the cars that limit it
    obtain ⟨sc, hsc⟩ : ∃ s, secs[sx]? = some s := ⟨_, List.getElem?_eq_getElem hsl⟩
    obtain ⟨tsx, htsx⟩ : ∃ t, us[sx]? = some t := ⟨_, List.getElem?_eq_getElem (by omega)⟩
    have eLim : limL secs cars sx n tick = if sc.1 then [] else aheadL secs cars sx n tick := by
      unfold limL
      rw [List.getD_eq_getElem?_getD, hsc]
      rfl
    have aheadLen : (aheadL secs cars sx n tick).length ≤ 10 := by
      unfold aheadL
      refine Nat.le_trans (List.length_filter_le _ _) ?_
      rw [List.length_take, plc_len]
      have := CO.few
      omega
    refine seq_cut (fun σ' H' => σ' = [some (.ref p), some (.ref a), some (.str n), some (.int tick), some (.ref dv), some (.ref D), some (.int ((sx : Nat) : Int)), some (.int (unitsTo secs sx)), some (.ref Lm), none, none, none, none, none, none, none, none, none, none, none] ∧ Same H4 H' ∧ H' Lm = some (.lst ((n :: limL secs cars sx n tick).map V.str))) (fun nx done => ?_) ?_
    · refine ⟨_, rfl, p, rx, _, rfl, hp5, p, rx, _, _, rfl, hp5, rf_sections _ _, _, rfl, rt, _, _, .ref tsx, rfl, rfl, SqT.of u15, atI_nat (map_at V.ref htsx), tsx, _, ((0 : Nat) : Int), .str (kindS sc.1), rfl, rfl, SqT.of (u35 sx tsx sc htsx hsc), atI_nat rfl, rfl, _, rfl, ?_⟩
      rw [show decide (V.str (kindS sc.1) = V.str "narrow") = !sc.1 by cases sc.1 <;> decide +kernel]
      cases hk : sc.1 with
      | true =>
        rw [hk] at eLim
        refine iteF (done _ _ ⟨rfl, s5, ?_⟩)
        rw [eLim]
        exact hLm5
      | false =>
        rw [hk] at eLim
        refine iteT ⟨_, rfl, _, rfl, _, rfl, _, rfl, _, rfl, dv, secs, cars, sx, n, tick, rfl, da5, CO, hn, hsl, fun H6 l s6 hl => ?_⟩
        refine ⟨Lm, l, [V.str n], _, rfl, rfl, s6 _ _ hLm5, hl, by rw [List.length_map]; show 1 + _ ≤ _; exact Nat.le_trans (show 1 + (aheadL secs cars sx n tick).length ≤ 11 by omega) (by decide), done _ _ ⟨rfl, fun b o e => by rw [upd_ne (ne_of_none e hLm)]; exact s6 _ _ (s5 _ _ e), ?_⟩⟩
        rw [upd_same, eLim]
        rfl
    rintro σ' H7 ⟨rfl, s47, hLm7⟩
    have e7 := e4.trans (ExtN.same s47)
    have T7 := T4.ext s47
    have da7 := da4.ext (ExtN.same s47)
    have ct7 := ct4.ext (ExtN.same s47)
    have limIn : ∀ o ∈ n :: limL secs cars sx n tick, o ∈ names cars := fun o ho => by
      rcases List.mem_cons.mp ho with rfl | ho
      · exact hn
      · rw [eLim] at ho
        cases hk : sc.1 with
        | true => rw [hk] at ho; cases ho
        | false =>
          rw [hk] at ho
          exact plc_mem.mp (List.mem_of_mem_take (List.mem_filter.mp ho).1)
    have limLen : (n :: limL secs cars sx n tick).length ≤ 11 := by
      rw [eLim, List.length_cons]
      cases sc.1 with
      | true => show 0 + 1 ≤ 11; omega
      | false => show (aheadL secs cars sx n tick).length + 1 ≤ 11; omega
    clear s47 hp5 u15 u35 s5 hLm5 da5 e4 T4 da4 ct4 hLm
    -- the paces
    have ndn : (names cars).Nodup := CO.nd
    have few10 := CO.few
    obtain ⟨ts, c1, c2, c3⟩ := id ct7
    have hcl : (ts.map V.ref).length = cars.length := by rw [List.length_map, c2]
    refine ⟨_, rfl, a, rfl, ⟨_, SqT.of c1⟩, fun PD hPD => ?_⟩
    refine dc_it walk_tup (fun i H8 => Same H7 H8 ∧ H8 PD = some (.dK ((cars.take i).map fun c => ((Sum.inr c.name : Key), V.int c.pace))))
      ⟨newS hPD _, upd_same⟩ (fun i H8 _ ⟨k8, _⟩ => SqT.of (k8 _ _ c1)) ?_ ?_
    · rintro i y H8 H9 hi ⟨k8, hP8⟩ ⟨e, hy⟩
      subst e
      rw [hcl] at hi
      obtain ⟨c, hc⟩ : ∃ c, cars[i]? = some c := ⟨_, List.getElem?_eq_getElem hi⟩
      obtain ⟨t, ht⟩ : ∃ t, ts[i]? = some t := ⟨_, List.getElem?_eq_getElem (by omega)⟩
      obtain rfl : y = V.ref t := by
        rw [List.getElem?_map, ht] at hy
        exact (Option.some.inj hy).symm
      refine ⟨t, _, rfl, SqT.of (k8 _ _ (c3 i t c ht hc)), rfl, _, _, rfl, _, _, rfl, _, _, rfl, rfl, rfl, yes_of ?_⟩
      refine ⟨_, rfl, _, rfl, _, Sum.inr c.name, rfl, hP8, by rw [List.length_map, List.length_take]; exact small1000 (by omega), fun b o e => by rw [upd_ne (ne_of_none e hPD)]; exact k8 _ _ e, ?_⟩
      rw [upd_same, put_car (g := fun c => V.int c.pace) CO.nd hc]
    rintro H8 ⟨k8, hP8⟩
    rw [hcl, List.take_length] at hP8
    have hP8 : H8 PD = some (.dK (paceK cars)) := hP8
    have da8 := da7.ext (ExtN.same k8)
    have hL8 := k8 _ _ hLm7
    refine gname_to ?_
    dsimp only
    have paceIn : ∀ o ∈ names cars, 0 < paceOf cars o ∧ paceOf cars o ≤ 60 := fun o ho => by
      obtain ⟨c, hc, rfl⟩ := List.mem_map.mp ho
      rw [paceOf_car ndn hc]
      have := CO.all c hc
      have h1 := this.p0
      have h2 := this.p1
      omega
    refine ⟨_, rfl, Lm, rfl, ⟨_, SqL.of hL8⟩, fun D3 hD3 => ?_⟩
    refine lc_it walk_list (fun j H9 => Same H8 H9 ∧ TupsAt H9 D3 ((((n :: limL secs cars sx n tick).take j).map (ownF secs cars sx tick)).map frV))
      ⟨newS hD3 _, tups_nil upd_same⟩ (fun j H9 _ ⟨k9, _⟩ => SqL.of (k9 _ _ hL8)) ?_ ?_
    · rintro j z Hz H9 hj ⟨k9, T9⟩ ⟨e, hz⟩
      subst e
      rw [List.length_map] at hj
      obtain ⟨o, ho⟩ : ∃ o, (n :: limL secs cars sx n tick)[j]? = some o := ⟨_, List.getElem?_eq_getElem hj⟩
      obtain rfl : z = V.str o := by
        rw [List.getElem?_map, ho] at hz
        exact (Option.some.inj hz).symm
      have hom := limIn o (List.mem_of_getElem? ho)
      have da9 := da8.ext (ExtN.same k9)
      obtain ⟨_, W9, D9⟩ := id da9
      obtain ⟨xs, x1, x2, x3⟩ := id T9
      refine ⟨rfl, yes_of ?_⟩
      refine ⟨_, rfl, _, rfl, dv, rfl, _, rfl, _, rfl, .inr ⟨_, _, D9.ins⟩, dv, secs, cars, o, sx, _, rfl, da9, hom, by omega, .inr rfl, _, _, rfl, rfl, _, rfl, _, rfl, PD, .int (paceOf cars o), rfl, gSt (k9 _ _ hP8) (paceK_get ndn hom), by show 2 ≤ sizeLine; decide, fun x hx => ?_⟩
      refine ⟨xs.map V.ref, by rw [upd_ne (ne_of_none x1 hx)]; exact x1, ?_, fun b o e => ?_, ?_⟩
      · rw [List.length_map, x2, List.length_map, List.length_map, List.length_take]
        exact small1000 (by omega)
      · have e9 := k9 _ _ e
        rw [upd_ne (ne_of_none e hD3), upd_ne (ne_of_none e9 hx)]
        exact e9
      · have := tups_push x1 x2 x3 hx (frV (ownF secs cars sx tick o))
        rw [tk1 ho, List.map_append, List.map_append]
        exact this
    rintro H9 ⟨k9, T9⟩
    rw [List.length_map, List.take_length] at T9
    refine ⟨D3, ownF secs cars sx tick n, (limL secs cars sx n tick).map (ownF secs cars sx tick), rfl, T9, by rw [List.length_cons, List.length_map]; rw [List.length_cons] at limLen; omega, fun q hq => ?_, fun H10 tb s10 htb => ?_⟩
    · have hq : q ∈ (n :: limL secs cars sx n tick).map (ownF secs cars sx tick) := hq
      obtain ⟨o, ho, rfl⟩ := List.mem_map.mp hq
      exact paceIn o (limIn o ho)
    have hbest := least_in (P := fun q : Fr => 0 < q.2 ∧ q.2 ≤ 60) (f := ownF secs cars sx tick n) (paceIn n hn) (l := (n :: limL secs cars sx n tick).map (ownF secs cars sx tick)) fun q hq => by
      obtain ⟨o, ho, rfl⟩ := List.mem_map.mp hq
      exact paceIn o (limIn o ho)
    have e10 := e7.trans (ExtN.same (k8.trans (k9.trans s10)))
    have T10 := T7.ext (k8.trans (k9.trans s10))
    have eB : leastF (ownF secs cars sx tick n) (ownF secs cars sx tick n :: (limL secs cars sx n tick).map (ownF secs cars sx tick)) = bestF secs cars sx n tick := rfl
    have eB2 : leastF (ownF secs cars sx tick n) ((n :: limL secs cars sx n tick).map (ownF secs cars sx tick)) = bestF secs cars sx n tick := rfl
    rw [eB] at htb
    rw [eB2] at hbest
    clear k8 k9 s10 T9 hL8 hP8 da8 da7 T7 e7 hLm7 hPD hD3
    generalize bestF secs cars sx n tick = bf at htb hbest ePos
    generalize unitsTo secs sx = un at ePos ⊢
    refine ⟨tb, _, rfl, SqT.of htb, rfl, _, _, rfl, _, _, rfl, rfl, ?_⟩
    refine ⟨_, rfl, _, rfl, _, rfl, _, _, rfl, rfl, .inr ⟨by omega, by omega⟩, _, _, rfl, rfl, ?_⟩
    refine ⟨_, rfl, _, rfl, _, _, rfl, ?_⟩
    have gpos : 0 < Nat.gcd (bf.1 + un * bf.2).natAbs bf.2.natAbs := Nat.gcd_pos_of_pos_right _ (by omega)
    have gle : Nat.gcd (bf.1 + un * bf.2).natAbs bf.2.natAbs ≤ bf.2.natAbs := Nat.gcd_le_right _ (by omega)
    have gI : CDiv 0 ((Nat.gcd (bf.1 + un * bf.2).natAbs bf.2.natAbs : Nat) : Int) := ⟨by omega, by omega⟩
    refine ⟨_, rfl, _, rfl, _, _, rfl, rfl, gI, _, rfl, _, rfl, _, _, rfl, rfl, gI, by show 2 ≤ sizeLine; decide, fun t ht => ?_⟩
    have s11 := newS ht (.tup (frV (redF (addU un bf))))
    refine k _ t (e10.trans (ExtN.same s11)) (T10.ext s11) ?_
    rw [ePos]
    exact upd_same
end
end Sl

set_option Elab.async false
set_option linter.all false
set_option maxRecDepth 100000
set_option maxHeartbeats 2000000
namespace Sl
open PySem PySem.Spec L2 OwnR LamX
/-! ### where a car is: the mathematics -/
theorem tk_step {secs : List Sec} {cars : List Car} (CO : CarsOk cars) {n : Str} (hn : n ∈ names cars) {i : Nat} {s : Sec} (hs : secs[i]? = some s) : (plcC secs cars i).tk n + paceOf cars n * ((s.2 : Nat) : Int) ≤ (plcC secs cars (i + 1)).tk n := by
  have e : (plcC secs cars (i + 1)) = stepP (paceOf cars) (plcC secs cars i) s := plc_next hs
  rw [e]
  unfold stepP
  split
  · exact Int.le_refl _
  · obtain ⟨k, hk⟩ := List.mem_iff_getElem?.mp (plc_mem (secs := secs) (i := i).mpr hn)
    have := (tick_max (freeP (paceOf cars) (plcC secs cars i) s.2) (plc_nd (secs := secs) (i := i) CO.nd) hk).1 k n (Nat.le_refl _) hk
    exact this
theorem pace_pos {cars : List Car} (CO : CarsOk cars) {n : Str} (hn : n ∈ names cars) : 0 < paceOf cars n ∧ paceOf cars n ≤ 60 := by
  obtain ⟨c, hc, rfl⟩ := List.mem_map.mp hn
  rw [paceOf_car CO.nd hc]
  have := CO.all c hc
  have h1 := this.p0
  have h2 := this.p1
  omega
theorem tk_lt {secs : List Sec} {cars : List Car} (CO : CarsOk cars) (SO : SecsOk secs) {n : Str} (hn : n ∈ names cars) {i : Nat} (hi : i < secs.length) : (plcC secs cars i).tk n < (plcC secs cars (i + 1)).tk n := by
  obtain ⟨s, hs⟩ : ∃ s, secs[i]? = some s := ⟨_, List.getElem?_eq_getElem hi⟩
  have h := tk_step CO hn hs
  have hp := (pace_pos CO hn).1
  have hl := (SO.len s (List.mem_of_getElem? hs)).1
  have : 0 < paceOf cars n * ((s.2 : Nat) : Int) := Int.mul_pos hp (by omega)
  omega
theorem tk_mono {secs : List Sec} {cars : List Car} (CO : CarsOk cars) (SO : SecsOk secs) {n : Str} (hn : n ∈ names cars) {i : Nat} : ∀ {j : Nat}, i ≤ j → j ≤ secs.length → (plcC secs cars i).tk n ≤ (plcC secs cars j).tk n
  | 0, h, _ => by
    obtain rfl : i = 0 := by omega
    exact Int.le_refl _
  | j + 1, h, hj => by
    by_cases e : i = j + 1
    · subst e
      exact Int.le_refl _
    · have := tk_mono CO SO hn (i := i) (j := j) (by omega) (by omega)
      have := tk_lt CO SO hn (i := j) (by omega)
      omega
theorem pass_low {secs : List Sec} {cars : List Car} {n : Str} {tick : Int} : ∀ {k : Nat}, (∀ i, i < k → (plcC secs cars i).tk n ≤ tick) → passL secs cars n tick k = List.range k
  | 0, _ => rfl
  | k + 1, h => by
    have ih := pass_low (k := k) fun i hi => h i (by omega)
    unfold passL at ih ⊢
    rw [List.range_succ, List.filter_append, ih, List.filter_cons, decide_eq_true (h k (by omega))]
    rfl
theorem pass_high {secs : List Sec} {cars : List Car} {n : Str} {tick : Int} {k : Nat} : ∀ {m : Nat}, (∀ i, k ≤ i → i < k + m → tick < (plcC secs cars i).tk n) → passL secs cars n tick (k + m) = passL secs cars n tick k
  | 0, _ => rfl
  | m + 1, h => by
    have ih := pass_high (k := k) (m := m) fun i h1 h2 => h i h1 (by omega)
    unfold passL at ih ⊢
    rw [show k + (m + 1) = (k + m) + 1 by omega, List.range_succ, List.filter_append, ih, List.filter_cons, decide_eq_false (by have := h (k + m) (by omega) (by omega); omega)]
    simp
theorem pass_at {secs : List Sec} {cars : List Car} (CO : CarsOk cars) (SO : SecsOk secs) {n : Str} (hn : n ∈ names cars) {tick : Int} {k : Nat} (hk : k ≤ secs.length) (h1 : (plcC secs cars k).tk n ≤ tick) (h2 : k < secs.length → tick < (plcC secs cars (k + 1)).tk n) : (passL secs cars n tick (secs.length + 1)).getLast? = some k := by
  have e : passL secs cars n tick (secs.length + 1) = List.range (k + 1) := by
    rw [show secs.length + 1 = (k + 1) + (secs.length - k) by omega, pass_high fun i a b => ?_, pass_low fun i a => ?_]
    · have := tk_mono CO SO hn (i := i) (j := k) (by omega) hk
      omega
    · have := h2 (by omega)
      have := tk_mono CO SO hn (i := k + 1) (j := i) a (by omega)
      omega
  rw [e, List.range_succ, List.getLast?_append]
  rfl
theorem posF_at {secs : List Sec} {cars : List Car} (CO : CarsOk cars) (SO : SecsOk secs) {n : Str} (hn : n ∈ names cars) {tick : Int} {k : Nat} (hk : k < secs.length) (h1 : (plcC secs cars k).tk n ≤ tick) (h2 : tick < (plcC secs cars (k + 1)).tk n) : posF secs cars n tick = redF (addU (unitsTo secs k) (bestF secs cars k n tick)) := by
  unfold posF
  rw [pass_at CO SO hn (by omega) h1 fun _ => h2]
  show (if k = secs.length then _ else _) = _
  rw [if_neg (by omega)]
theorem posF_end {secs : List Sec} {cars : List Car} (CO : CarsOk cars) (SO : SecsOk secs) {n : Str} (hn : n ∈ names cars) {tick : Int} (h1 : (plcC secs cars secs.length).tk n ≤ tick) : posF secs cars n tick = (unitsTo secs secs.length, 1) := by
  unfold posF
  rw [pass_at CO SO hn (Nat.le_refl _) h1 fun h => by omega]
  show (if secs.length = secs.length then _ else _) = _
  rw [if_pos rfl]
/-! the least of fractions -/
theorem less_self (f : Fr) : lessF f f = f := by unfold lessF; split <;> rfl
theorem least_cons (f q : Fr) (l : List Fr) : leastF f (q :: l) = leastF (lessF f q) l := rfl
theorem least_le {f : Fr} (hf : 0 < f.2) : ∀ (l : List Fr) (m : Fr), (∀ q ∈ l, 0 < q.2) → 0 < m.2 → m.1 * f.2 ≤ f.1 * m.2 → (leastF m l).1 * f.2 ≤ f.1 * (leastF m l).2
  | [], m, _, _, h => h
  | q :: l, m, hl, hm, h => by
    rw [least_cons]
    have hq := hl q List.mem_cons_self
    refine least_le hf l _ (fun r hr => hl r (List.mem_cons_of_mem _ hr)) ?_ ?_
    · unfold lessF
      split
      · exact hq
      · exact hm
    · unfold lessF
      split
      · rename_i hlt
        have a1 : q.1 * m.2 * f.2 ≤ m.1 * q.2 * f.2 := Int.mul_le_mul_of_nonneg_right (Int.le_of_lt hlt) (Int.le_of_lt hf)
        have a2 : m.1 * f.2 * q.2 ≤ f.1 * m.2 * q.2 := Int.mul_le_mul_of_nonneg_right h (Int.le_of_lt hq)
        have e1 : q.1 * m.2 * f.2 = q.1 * f.2 * m.2 := by ac_rfl
        have e2 : m.1 * q.2 * f.2 = m.1 * f.2 * q.2 := by ac_rfl
        have e3 : f.1 * m.2 * q.2 = f.1 * q.2 * m.2 := by ac_rfl
        exact Int.le_of_mul_le_mul_right (by omega : q.1 * f.2 * m.2 ≤ f.1 * q.2 * m.2) hm
      · exact h
theorem least_again {f : Fr} (hf : 0 < f.2) {l : List Fr} (hl : ∀ q ∈ l, 0 < q.2) : leastF f (l ++ [f]) = leastF f (f :: l) := by
  rw [least_snoc, least_cons, less_self]
  have h := least_le hf l f hl hf (Int.le_refl _)
  generalize leastF f l = m at h
  unfold lessF
  rw [if_neg (by omega)]
theorem least_zero {p : Int} (hp : 0 < p) : ∀ {l : List Fr}, (∀ q ∈ l, 0 ≤ q.1 ∧ 0 < q.2) → leastF (0, p) l = (0, p)
  | [], _ => rfl
  | q :: l, h => by
    rw [least_cons]
    have hq := h q List.mem_cons_self
    have e : lessF (0, p) q = (0, p) := by
      unfold lessF
      have := Int.mul_nonneg hq.1 (Int.le_of_lt hp)
      rw [if_neg (by show ¬ q.1 * p < 0 * q.2; omega)]
    rw [e]
    exact least_zero hp fun r hr => h r (List.mem_cons_of_mem _ hr)
theorem sortBy_up {α : Type} (key : α → Int) (l : List α) : (sortBy key l).Pairwise fun a b => key a ≤ key b := by
  unfold sortBy
  have h := isort_up (l.map fun x => (key x, x))
  have hk : ∀ p ∈ isort (l.map fun x => (key x, x)), p.1 = key p.2 := fun p hp => by
    have := (isort_perm (l.map fun x => (key x, x))).mem_iff.mp hp
    obtain ⟨x, _, rfl⟩ := List.mem_map.mp this
    rfl
  rw [List.pairwise_map]
  refine List.Pairwise.imp_of_mem ?_ h
  intro a b ha hb hab
  rw [← hk a ha, ← hk b hb]
  exact hab
theorem ahead_start {cars : List Car} {n o : Str} (hn : n ∈ (pl0 cars).ord) (ho : o ∈ (pl0 cars).ord.take (posL n (pl0 cars).ord)) : startOf cars o ≤ startOf cars n := by
  have hp : (pl0 cars).ord.Pairwise fun a b => startOf cars a ≤ startOf cars b := sortBy_up _ _
  obtain ⟨i, hi⟩ := List.mem_iff_getElem?.mp ho
  have hl : i < posL n (pl0 cars).ord := by
    have := (List.getElem?_eq_some_iff.mp hi).1
    rw [List.length_take] at this
    omega
  rw [List.getElem?_take_of_lt hl] at hi
  have hj := posL_at hn
  obtain ⟨h1, e1⟩ := List.getElem?_eq_some_iff.mp hi
  obtain ⟨h2, e2⟩ := List.getElem?_eq_some_iff.mp hj
  have := List.pairwise_iff_getElem.mp hp i _ h1 h2 hl
  rw [e1, e2] at this
  exact this
theorem posF_zero {secs : List Sec} {cars : List Car} (CO : CarsOk cars) (SO : SecsOk secs) {n : Str} (hn : n ∈ names cars) {tick : Int} (h : tick ≤ (plcC secs cars 0).tk n) : posF secs cars n tick = (0, 1) := by
  have hl : 0 < secs.length := List.length_pos_iff.mpr SO.ne
  have hpn := pace_pos CO hn
  by_cases e : tick = (plcC secs cars 0).tk n
  · have h1 := tk_lt CO SO hn hl
    rw [posF_at CO SO hn hl (by omega) (by omega)]
    have ho : ownF secs cars 0 tick n = (0, paceOf cars n) := by
      unfold ownF
      rw [e, Int.sub_self]
    have hlim : ∀ q ∈ (n :: limL secs cars 0 n tick).map (ownF secs cars 0 tick), 0 ≤ q.1 ∧ 0 < q.2 := fun q hq => by
      obtain ⟨o, ho', rfl⟩ := List.mem_map.mp hq
      rcases List.mem_cons.mp ho' with rfl | ho'
      · rw [ho]
        exact ⟨Int.le_refl _, hpn.1⟩
      · unfold limL at ho'
        split at ho'
        · cases ho'
        · have hm := (List.mem_filter.mp ho').1
          have h2 := ahead_start (cars := cars) (n := n) (o := o) ((pl0_perm cars).mem_iff.mpr hn) hm
          have h3 : (plcC secs cars 0).tk o = startOf cars o := rfl
          have h4 : (plcC secs cars 0).tk n = startOf cars n := rfl
          refine ⟨?_, (pace_pos CO (plc_mem.mp (List.mem_of_mem_take hm))).1⟩
          show 0 ≤ tick - (plcC secs cars 0).tk o
          omega
    have hb : bestF secs cars 0 n tick = (0, paceOf cars n) := by
      unfold bestF
      rw [ho]
      exact least_zero hpn.1 hlim
    rw [hb]
    unfold unitsTo addU redF
    have g : Nat.gcd (0 + ((secs.take 0).map fun x => ((x.2 : Nat) : Int)).sum * paceOf cars n).natAbs (paceOf cars n).natAbs = (paceOf cars n).natAbs := by simp
    show ((0 + ((secs.take 0).map fun x => ((x.2 : Nat) : Int)).sum * paceOf cars n) / ((Nat.gcd (0 + ((secs.take 0).map fun x => ((x.2 : Nat) : Int)).sum * paceOf cars n).natAbs (paceOf cars n).natAbs : Nat) : Int), paceOf cars n / ((Nat.gcd (0 + ((secs.take 0).map fun x => ((x.2 : Nat) : Int)).sum * paceOf cars n).natAbs (paceOf cars n).natAbs : Nat) : Int)) = (0, 1)
    rw [g]
    have g2 : (((paceOf cars n).natAbs : Nat) : Int) = paceOf cars n := by omega
    rw [g2, Int.ediv_self (by omega)]
    simp
  · unfold posF
    have : passL secs cars n tick (secs.length + 1) = [] := by
      have := pass_high (secs := secs) (cars := cars) (n := n) (tick := tick) (k := 0) (m := secs.length + 1) fun i _ b => by
        have := tk_mono CO SO hn (i := 0) (j := i) (by omega) (by omega)
        omega
      rw [Nat.zero_add] at this
      rw [this]
      rfl
    rw [this]
    rfl
/-- the law's way to the least one -/
theorem best_law {secs : List Sec} {cars : List Car} (CO : CarsOk cars) {n : Str} (hn : n ∈ names cars) {tick : Int} {k : Nat} {b : Bool} {len : Nat} (hs : secs[k]? = some (b, len)) (h2 : tick < (plcC secs cars (k + 1)).tk n) :
    leastF (ownF secs cars k tick n) (((if b then [n] else (plcC secs cars k).ord.take (posL n (plcC secs cars k).ord + 1)).filter fun o => decide (tick < (plcC secs cars (k + 1)).tk o)).map (ownF secs cars k tick)) = bestF secs cars k n tick := by
  have hpn := pace_pos CO hn
  have eL : limL secs cars k n tick = if b then [] else aheadL secs cars k n tick := by
    unfold limL
    rw [List.getD_eq_getElem?_getD, hs]
    rfl
  unfold bestF
  rw [eL]
  cases b with
  | true =>
    have e : ([n].filter fun o => decide (tick < (plcC secs cars (k + 1)).tk o)) = [n] := by simp [h2]
    show leastF _ (([n].filter _).map _) = leastF _ ([n].map _)
    rw [e]
  | false =>
    have hno : n ∈ (plcC secs cars k).ord := plc_mem.mpr hn
    have e : (plcC secs cars k).ord.take (posL n (plcC secs cars k).ord + 1) = (plcC secs cars k).ord.take (posL n (plcC secs cars k).ord) ++ [n] := tk1 (posL_at hno)
    show leastF _ ((((plcC secs cars k).ord.take (posL n (plcC secs cars k).ord + 1)).filter _).map _) = leastF _ ((n :: aheadL secs cars k n tick).map _)
    rw [e, List.filter_append, List.map_append, List.map_cons]
    have e2 : ([n].filter fun o => decide (tick < (plcC secs cars (k + 1)).tk o)) = [n] := by simp [h2]
    rw [e2]
    refine least_again (f := ownF secs cars k tick n) hpn.1 fun q hq => ?_
    obtain ⟨o, ho, rfl⟩ := List.mem_map.mp hq
    exact (pace_pos CO (plc_mem.mp (List.mem_of_mem_take (List.mem_filter.mp ho).1))).1
theorem units_succ {secs : List Sec} {k : Nat} {s : Sec} (h : secs[k]? = some s) : unitsTo secs (k + 1) = unitsTo secs k + ((s.2 : Nat) : Int) := by
  unfold unitsTo
  rw [tk1 h, List.map_append, List.sum_append]
  simp
end Sl

set_option Elab.async false
set_option linter.all false
set_option maxRecDepth 100000
set_option maxHeartbeats 4000000
namespace Sl
open PySem PySem.Spec L2 OwnR LamX
section
variable {P : Program} {w : World} {K : PySem.W.Frag} {mg : Str → Option Value} {base : Heap}
/-! ### check_known of any plain value -/
def KnV (CU : Addr) (v : V) (H : Hp) (E : XK) : Prop := ∀ H' d fs, Same H H' → H' d = some (.xd fs) → fs.lookup ("name" : Str) = some v → E (.ref CU) (some d) H'
def spKnownV (CU : Addr) : Sp := fun vs H Q E => ∃ (a : Addr) (cars : List Car) (v : V), vs = [.ref a, v] ∧ Plain v ∧ CarsAt H a cars ∧ CarsOk cars ∧ (inV v ((names cars).map V.str) = true → ∀ H', Same H H' → Q .non H') ∧ (inV v ((names cars).map V.str) = false → KnV CU v H E)
theorem ok_knownV {f CU : Addr} {fd : FuncData} (F : Fun K "check_known" "check_known" sCheckKnown f fd) (W : ErrO P w K mg base "UnknownCar" CU) : FnOk P w K mg base (L2.CX P w) 3 f fd ["cars", "name"] (spKnownV CU) := by
  refine F.okX scKnown (fun vs H Q E h => ?_) (fun cdv A outer s H vs Q E hr h => ?_)
  · obtain ⟨a, cars, n, rfl, _⟩ := h
    rfl
  · obtain ⟨a, cars, v, rfl, hv, hC, CO, k, kE⟩ := h
    have nd := scKnown.nd
    obtain ⟨fI, dI, ps, w1, w2, w3, w4⟩ := W.init
    refine ⟨_, pss_one (ps_if (PT.nox (pt_cmpR op_notIn_seq (pv 1) (pe_lc (own := [("known", 2), ("start", 3), ("pace", 4)]) (g := gTup K 3 (gCons (gName 2) (gCons (gName 3) (gCons (gName 4) gNil)))) (tt := tYes) (te := tVar 2) (by rfl) nd (pi_tup (pv 0)) (blkOk_by (N := nKnown) (sc := defScope sCheckKnown) (by decide +kernel))
          (fun _ _ _ _ _ => pg_tup rfl (pgs_cons (pg_name (i := 2) nd rfl (Or.inl rfl)) (pgs_cons (pg_name (i := 3) nd rfl (Or.inl rfl)) (pgs_cons (pg_name (i := 4) nd rfl (Or.inl rfl)) pgs_nil)))) (fun _ _ _ _ _ => pts_nil) (fun _ _ _ _ _ => pv 2)) (by rfl)))
      (pss_one (ps_raise rfl (takes_of rfl rfl rfl rfl) (pmk_oex W.T w1 w2 w4 hr w3 .nil pass0 (by rfl) W.g (pa_cons (pv 1) pa_nil)))) pss_nil), ?_⟩
    obtain ⟨ts, h1, h2, h3⟩ := hC
    have hl : (ts.map V.ref).length = cars.length := by rw [List.length_map, h2]
    refine ⟨_, rfl, _, rfl, a, rfl, ⟨_, SqT.of h1⟩, fun D hD => ?_⟩
    refine lc_it walk_tup (fun i H1 => Same H H1 ∧ H1 D = some (.lst (((cars.take i).map (·.name)).map V.str)))
      ⟨sameNew hD _, upd_same⟩ (fun i H1 _ ⟨k1, _⟩ => SqT.of (k1 _ _ h1)) ?_ ?_
    · rintro i y H1 H2 hi ⟨k1, hD1⟩ ⟨e, hy⟩
      subst e
      obtain ⟨t, ht, rfl⟩ : ∃ t, ts[i]? = some t ∧ y = V.ref t := by
        rw [List.getElem?_map] at hy
        obtain ⟨t, z1, z2⟩ := Option.map_eq_some_iff.mp hy
        exact ⟨t, z1, z2.symm⟩
      rw [hl] at hi
      obtain ⟨c, hc⟩ : ∃ c, cars[i]? = some c := ⟨_, List.getElem?_eq_getElem hi⟩
      have few := CO.few
      refine ⟨t, _, rfl, SqT.of (k1 _ _ (h3 i t c ht hc)), rfl, _, _, rfl, _, _, rfl, _, _, rfl, rfl, rfl, yes_of ?_⟩
      refine ⟨_, rfl, _, hD1, by rw [List.length_map, List.length_map, List.length_take]; exact small1000 (by omega), fun b o e => by rw [upd_ne (ne_of_none e hD)]; exact k1 _ _ e, ?_⟩
      rw [upd_same, tk1 hc, List.map_append, List.map_append]
      rfl
    · rintro H1 ⟨k1, hD1⟩
      rw [hl, List.take_length] at hD1
      refine ⟨D, _, rfl, .inl (SqL.of hD1), by (rcases hv with ⟨i, rfl⟩ | rfl | ⟨b, rfl⟩ | ⟨z, rfl⟩ <;> rfl), flat_strs _, _, rfl, ?_⟩
      have en : (cars.map (·.name)).map V.str = (names cars).map V.str := rfl
      rw [en]
      cases hb : inV v ((names cars).map V.str) with
      | true => exact iteF (k hb _ k1)
      | false =>
        refine iteT ⟨_, rfl, by show 1 ≤ 1000; decide, fun a2 ha2 => ⟨a2, v, rfl, upd_same, fun dx hdx ne => ⟨rfl, dx, [("name", v)], upd_same, ?_, ?_, ?_⟩⟩⟩
        · rw [upd_ne ne, upd_same]
        · rw [upd_ne ne] at hdx
          exact hdx
        · have hdx1 : H1 dx = none := by rw [upd_ne ne] at hdx; exact hdx
          refine kE hb _ dx [("name", v)] (fun b o e => ?_) upd_same rfl
          have nb : b ≠ dx := fun z => by rw [z] at e; have := k1 _ _ e; rw [hdx1] at this; cases this
          have na : b ≠ a2 := fun z => by rw [z] at e; have := k1 _ _ e; rw [ha2] at this; cases this
          rw [upd_ne nb, del_ne na, upd_ne na, upd_ne nb, upd_ne na]
          exact k1 _ _ e
theorem inV_plain {v : V} (h : Plain v) {l : List Str} (hi : inV v (l.map V.str) = true) : ∃ n, v = .str n ∧ n ∈ l := by
  rcases h with ⟨i, rfl⟩ | rfl | ⟨b, rfl⟩ | ⟨z, rfl⟩
  · exfalso
    induction l with
    | nil => cases hi
    | cons a l ih => exact ih hi
  · exfalso
    induction l with
    | nil => cases hi
    | cons a l ih => exact ih hi
  · exfalso
    induction l with
    | nil => cases hi
    | cons a l ih => exact ih hi
  · rw [inV_str] at hi
    exact ⟨z, rfl, of_decide_eq_true hi⟩
/-! ### live.position(name, tick) -/
def spLPos (CL CR CU CN : Addr) (T : List (Addr × Str)) : Sp := fun vs H Q E => ∃ (x dx : Addr) (ss un : List LS) (S : St2) (q : Option Op) (v tk : V), vs = [.ref x, v, tk] ∧ LvAt CL CR H x dx ss un ∧ ss.getLast? = some (S, q) ∧ StOk S ∧ Tabs T H ∧ Plain v ∧ Plain tk ∧
  (inV v ((names S.2).map V.str) = false → KnV CU v H E) ∧ (inV v ((names S.2).map V.str) = true → numB tk 0 1000000000 = false → ∀ H', Same H H' → E (.ref CN) none H') ∧
  (∀ (n : Str) (t : Int), v = .str n → tk = .int t → n ∈ names S.2 → numB tk 0 1000000000 = true → ∀ H' u, ExtN H H' → Tabs T H' → H' u = some (.tup (frV (posF S.1 S.2 n t))) → Q (.ref u) H')
def nLPos : List Str := ["self", "name", "tick", "road", "cars", "last"]
theorem scLPos : FnScope nLPos ["self", "name", "tick"] (defScope sLiveRoadPosition) := ⟨rfl, rfl, rfl, by decide +kernel, rfl, by decide +kernel, by decide +kernel⟩
theorem ok_lPos {f fK fB fP CL CR CU CN : Addr} {fd dK dB dP : FuncData} {T : List (Addr × Str)} {tl : Tok} (F : Fun K "position" "LiveRoad.position" sLiveRoadPosition f fd) (M : Mg mg) (LT : LivT K CL) (EN : ErrT K mg "InvalidNumber" CN) (ml : mg "LATEST_TICK" = some (.int 1000000000 tl))
    (BK : Fb K mg "check_known" sCheckKnown ["cars", "name"] fK dK) (GK : FnOk P w K mg base (L2.CX P w) 3 fK dK ["cars", "name"] (spKnownV CU))
    (BB : Fb K mg "is_number" sIsNumber ["value", "least", "most"] fB dB) (GB : FnOk P w K mg base CX0 1 fB dB ["value", "least", "most"] spIsNumV)
    (BP : Fb K mg "position_at" sPositionAt ["road", "cars", "name", "tick"] fP dP) (GP : FnOk P w K mg base CX0 7 fP dP ["road", "cars", "name", "tick"] (spPosAt CR T)) : FnOk P w K mg base (L2.CX P w) 8 f fd ["self", "name", "tick"] (spLPos CL CR CU CN T) := by
  refine F.okX scLPos (fun vs H Q E h => ?_) (fun cdv A outer s H vs Q E hr h => ?_)
  · obtain ⟨x, dx, ss, un, S, q, v, tk, rfl, _⟩ := h
    rfl
  · obtain ⟨x, dx, ss, un, S, q, v, tk, rfl, lv, hl, ok, hT, pv0, ptk, k1, k2, k3⟩ := h
    have nd := scLPos.nd
    have hr1 : Room 1 (A.deeper (PyProof.Rows.envOfC "LiveRoad.position" (defScope sLiveRoadPosition) s.heap.objs.size f cdv)) := hr.mono (by decide)
    have hr3 : Room 3 (A.deeper (PyProof.Rows.envOfC "LiveRoad.position" (defScope sLiveRoadPosition) s.heap.objs.size f cdv)) := hr.mono (by decide)
    have hr7 : Room 7 (A.deeper (PyProof.Rows.envOfC "LiveRoad.position" (defScope sLiveRoadPosition) s.heap.objs.size f cdv)) := hr.mono (by decide)
    refine ⟨_, pss_cons (ps_asg (pe_ix (r := rIxL K) ix_list (pe_fld (pv 0) rfl) (pe_un un_neg pe_int) (fun _ _ => rfl)) (pg_tup rfl (pgs_cons (pg_name (i := 3) nd rfl (.inl rfl)) (pgs_cons (pg_name (i := 4) nd rfl (.inl rfl)) (pgs_cons (pg_name (i := 5) nd rfl (.inl rfl)) pgs_nil)))))
      (pss_cons (ps_expr (pe_call GK hr3 (by rfl) BK.at_ BK.fn.kp BK.bd .nil (passes_call (takes_of rfl rfl rfl rfl) fun _ _ _ _ h => h) (pa_cons (pv 4) (pa_cons (pv 1) pa_nil))))
      (pss_cons (ps_if (pt_not (pt_val (pe_call GB hr1 (by rfl) BB.at_ BB.fn.kp BB.bd .nil pass0 (pa_cons (pv 2) (pa_cons pe_int (pa_cons (pe_glob (v := .int 1000000000) (by rfl) ml ⟨_, rfl⟩) pa_nil)))))) (pss_one (ps_raise rfl (takes_of rfl rfl rfl rfl) (pmk_errT EN (by rfl)))) pss_nil)
      (pss_one (ps_ret (pe_call GP hr7 (by rfl) BP.at_ BP.fn.kp BP.bd .nil pass0 (pa_cons (pv 3) (pa_cons (pv 4) (pa_cons (pv 1) (pa_cons (pv 2) pa_nil))))))))), ?_⟩
    obtain ⟨sl, ul, ks, ku, hx, hsl, hul⟩ := lv
    obtain ⟨ts, t, m, a1, a2, a3, p, a, o, b1, b2, b3, b4⟩ := hsl.last hl
    refine ⟨_, rfl, x, CL, dx, _, _, rfl, hx, LT.cl, LT.ns, lv_s _ _ _ _ _, _, rfl, sl, _, _, .ref t, rfl, rfl, SqL.of a1, atI_lst a2 (map_atZ V.ref a3), t, _, rfl, SqT.of b1, rfl, _, _, rfl, _, _, rfl, _, _, rfl, rfl, ?_⟩
    refine ⟨_, rfl, _, rfl, a, S.2, v, rfl, pv0, b3, ok.co, fun hin H1 s1 => ?_, k1⟩
    obtain ⟨n, rfl, hn⟩ := inV_plain pv0 hin
    refine ⟨_, rfl, tk, 0, 1000000000, rfl, ptk, ?_⟩
    cases hb : numB tk 0 1000000000 with
    | false =>
      refine ⟨_, rfl, iteT ?_⟩
      exact k2 hin hb H1 s1
    | true =>
      refine ⟨_, rfl, iteF ?_⟩
      obtain ⟨i, rfl⟩ : ∃ i, tk = .int i := by
        rcases ptk with ⟨i, rfl⟩ | rfl | ⟨b, rfl⟩ | ⟨z, rfl⟩
        · exact ⟨i, rfl⟩
        · cases hb
        · cases hb
        · cases hb
      refine ⟨_, rfl, _, rfl, _, rfl, _, rfl, p, a, S.1, S.2, n, i, rfl, b2.ext (ExtN.same s1), b3.same s1, ok.so, ok.co, hn, hT.ext s1, fun H2 u e2 T2 hu => ?_⟩
      exact k3 n i rfl rfl hn hb H2 u ((ExtN.same s1).trans e2) T2 hu
end
end Sl

set_option Elab.async false
set_option linter.all false
set_option maxRecDepth 100000
set_option maxHeartbeats 4000000
namespace Sl
open PySem PySem.Spec L2 OwnR LamX
section
variable {P : Program} {w : World} {K : PySem.W.Frag} {mg : Str → Option Value} {base : Heap}
/-! ### _law_divisor -/
def spDivisor : Sp := fun vs H Q _ => ∃ a b : Int, vs = [.int a, .int b] ∧ 0 < b ∧ b ≤ 1000 ∧ Q (.int ((Nat.gcd a.natAbs b.natAbs : Nat) : Int)) H
def nDivisor : List Str := ["_law_one", "_law_other"]
theorem scDivisor : FnScope nDivisor ["_law_one", "_law_other"] (defScope sDivisor) := ⟨rfl, rfl, rfl, by decide +kernel, rfl, by decide +kernel, by decide +kernel⟩
theorem gcd_step {a b : Int} (hb : 0 < b) : Nat.gcd b.natAbs (a % b).natAbs = Nat.gcd a.natAbs b.natAbs := by
  have key : a = b * (a / b) + a % b := (Int.mul_ediv_add_emod a b).symm
  apply Nat.dvd_antisymm
  · have h1 : ((Nat.gcd b.natAbs (a % b).natAbs : Nat) : Int) ∣ b := Int.ofNat_dvd_left.mpr (Nat.gcd_dvd_left _ _)
    have h2 : ((Nat.gcd b.natAbs (a % b).natAbs : Nat) : Int) ∣ a % b := Int.ofNat_dvd_left.mpr (Nat.gcd_dvd_right _ _)
    refine Nat.dvd_gcd (Int.ofNat_dvd_left.mp ?_) (Nat.gcd_dvd_left _ _)
    have h3 := Int.dvd_add (Int.dvd_mul_of_dvd_left (c := a / b) h1) h2
    rw [← key] at h3
    exact h3
  · have h1 : ((Nat.gcd a.natAbs b.natAbs : Nat) : Int) ∣ a := Int.ofNat_dvd_left.mpr (Nat.gcd_dvd_left _ _)
    have h2 : ((Nat.gcd a.natAbs b.natAbs : Nat) : Int) ∣ b := Int.ofNat_dvd_left.mpr (Nat.gcd_dvd_right _ _)
    refine Nat.dvd_gcd (Nat.gcd_dvd_right _ _) (Int.ofNat_dvd_left.mp ?_)
    have h3 := Int.dvd_sub h1 (Int.dvd_mul_of_dvd_left (c := a / b) h2)
    rw [show a - b * (a / b) = a % b by omega] at h3
    exact h3
theorem ok_divisor {f : Addr} {fd : FuncData} (F : Fun K "_law_divisor" "_law_divisor" sDivisor f fd) (M : Mg mg) : FnOk P w K mg base CX0 1 f fd ["_law_one", "_law_other"] spDivisor := by
  refine F.ok scDivisor (fun vs H Q E h => ?_) (fun cdv A outer s H vs Q E hr h => ?_)
  · obtain ⟨a, b, rfl, _⟩ := h
    rfl
  · obtain ⟨a, b, rfl, b0, b1, k⟩ := h
    have nd := scDivisor.nd
    refine ⟨_, (pss_cons (ps_while PassesOwn.never (pt_cmpR op_gt (pv 1) pe_int (nomark _)) (pss_one (ps_par (i := 0) (j := 1) rfl nd rfl rfl (by decide) rfl rfl (pa_cons (pv 1) (pa_cons (pe_op op_mod (pe_callTy call_int1 (by rfl) M.int boot_tInt (pa_cons (pv 0) pa_nil)) (pv 1)) pa_nil)) (by rfl)))) (pss_one (ps_ret (pv 0)))), ?_⟩
    refine ⟨fun m σ H' => ∃ x y : Int, σ = [some (.int x), some (.int y)] ∧ H' = H ∧ 0 ≤ y ∧ y ≤ 1000 ∧ Nat.gcd x.natAbs y.natAbs = Nat.gcd a.natAbs b.natAbs ∧ m = y.toNat ∧ (y = 0 → 0 ≤ x), ⟨_, a, b, rfl, rfl, by omega, b1, rfl, rfl, fun z => by omega⟩, ?_⟩
    rintro m σ H' ⟨x, y, rfl, rfl, y0, y1, hg, rfl, hx⟩
    refine ⟨_, rfl, _, _, rfl, rfl, _, rfl, ?_⟩
    by_cases hy : 0 < y
    · rw [decide_eq_true hy]
      refine iteT ⟨_, fun σ' H2 h => h, ?_⟩
      have h1 := Int.emod_nonneg x (show y ≠ 0 by omega)
      have h2 := Int.emod_lt_of_pos x hy
      refine ⟨_, rfl, _, rfl, .inl ⟨x, rfl, _, rfl, _, _, rfl, rfl, hy, ?_⟩⟩
      exact ⟨_, _, rfl, (x % y).toNat, by omega, y, x % y, rfl, rfl, h1, by omega, by rw [gcd_step hy]; exact hg, rfl, fun _ => by omega⟩
    · rw [decide_eq_false hy]
      refine iteF ⟨_, rfl, ?_⟩
      have : y = 0 := by omega
      subst this
      have hx := hx rfl
      have e : ((Nat.gcd a.natAbs b.natAbs : Nat) : Int) = x := by
        rw [← hg]
        simp
        omega
      rw [e] at k
      exact k
/-! ### _law_position -/
def spLawPos : Sp := fun vs H Q _ => ∃ (sl a dr tk od : Addr) (secs : List Sec) (cars : List Car) (n : Str) (tick : Int), vs = [.ref sl, .ref a, .ref dr, .str n, .int tick] ∧ SecsAt H sl secs ∧ CarsAt H a cars ∧ H dr = some (.tup [.ref tk, .ref od]) ∧ TksAt H tk secs cars ∧ OrdsAt H od secs cars ∧ SecsOk secs ∧ CarsOk cars ∧ n ∈ names cars ∧
  ∀ H' t, Same H H' → H' t = some (.tup (frV (posF secs cars n tick))) → Q (.ref t) H'
def nLawPos : List Str := ["_law_sections_here", "_law_cars_here", "_law_drive_here", "_law_name", "_law_tick", "_law_ticks", "_law_orders", "_law_paces", "_law_passed", "_law_k", "_law_order", "_law_other", "_law_inside", "_law_best", "_law_new", "_law_top", "_law_car"]
theorem scLawPos : FnScope nLawPos ["_law_sections_here", "_law_cars_here", "_law_drive_here", "_law_name", "_law_tick"] (defScope sPosition) := ⟨rfl, rfl, rfl, by decide +kernel, rfl, by decide +kernel, by decide +kernel⟩
theorem tkl_at {secs : List Sec} {cars : List Car} {n : Str} {m i : Nat} (h : i ≤ m) : (tkl secs cars m n)[i]? = some ((plcC secs cars i).tk n) := by
  unfold tkl
  rw [List.getElem?_map, List.getElem?_range (by omega)]
  rfl
theorem ok_lawPos {f fV : Addr} {fd dV : FuncData} (F : Fun K "_law_position" "_law_position" sPosition f fd) (M : Mg mg) (mdc : mg "dict" = none) (BV : Fb K mg "_law_divisor" sDivisor ["_law_one", "_law_other"] fV dV) (GV : FnOk P w K mg base CX0 1 fV dV ["_law_one", "_law_other"] spDivisor) :
    FnOk P w K mg base CX0 2 f fd ["_law_sections_here", "_law_cars_here", "_law_drive_here", "_law_name", "_law_tick"] spLawPos := by
  refine F.ok scLawPos (fun vs H Q E h => ?_) (fun cdv A outer s H vs Q E hr h => ?_)
  · obtain ⟨sl, a, dr, tk, od, secs, cars, n, tick, rfl, _⟩ := h
    rfl
  · obtain ⟨sl, a, dr, tk, od, secs, cars, n, tick, rfl, hS, hC, hdr, ⟨kt, tk1', tk2', tk3'⟩, ⟨os, o1, o2, o3⟩, SO, CO, hn, k⟩ := h
    have nd := scLawPos.nd
    have hu := hu_of hr
    have hr1 := hr
    refine ⟨_, (pss_cons (ps_asg (pv 2) (pg_tup rfl (pgs_cons (pg_name (i := 5) nd rfl (.inr rfl)) (pgs_cons (pg_name (i := 6) nd rfl (.inl rfl)) pgs_nil)))) (pss_cons (ps_par (i := 7) (j := 8) rfl nd rfl rfl (by decide) rfl rfl (pa_cons (pe_callTy (call_dictP rfl) (by rfl) mdc boot_tDict (pa_cons (pe_lc (own := [("_law_car", 16)]) (g := gName 16) (tt := tYes) (te := tTup (tCons (tOp (rIxT K) (tVar 16) (tC (.int 0))) (tCons (tOp (rIxT K) (tVar 16) (tC (.int 2))) tNil))) (by rfl) nd (pi_tup (pv 1)) (blkOk_by (N := nLawPos) (sc := defScope sPosition) (by decide +kernel)) (fun _ _ _ _ _ => pg_name (i := 16) nd rfl (Or.inl rfl)) (fun _ _ _ _ _ => pts_nil) (fun _ _ _ _ _ => pe_tup (pa_cons (pe_ix (r := rIxT K) ix_tup (pv 16) pe_int (fun _ _ => rfl)) (pa_cons (pe_ix (r := rIxT K) ix_tup (pv 16) pe_int (fun _ _ => rfl)) pa_nil)))) pa_nil)) (pa_cons pe_int pa_nil)) (by rfl)) (pss_cons (ps_if (pt_cmpR op_le (pv 4) (pe_ix (r := rIxL K) ix_list (pe_dget hu (pv 5) (pv 3) (fun _ _ => rfl)) pe_int (fun _ _ => rfl)) (nomark _)) (pss_one (ps_ret (pe_tup (pa_cons pe_int (pa_cons pe_int pa_nil))))) pss_nil) (pss_cons (ps_for PassesOwn.never rfl (pi_range1 (by rfl) M.range (pa_cons (pe_callB call_len_seq (by rfl) M.len boot_len (pa_cons (pv 0) pa_nil)) pa_nil)) (pg_name (i := 9) nd rfl (.inr rfl)) (pss_cons (ps_if (pt_cmpR op_lt (pv 4) (pe_ix (r := rIxL K) ix_list (pe_dget hu (pv 5) (pv 3) (fun _ _ => rfl)) (pe_op op_add (pv 9) pe_int) (fun _ _ => rfl)) (nomark _)) (pss_cons (ps_set (i := 10) nd rfl (.inl rfl) (pe_ifExp (pt_cmpR op_eq (pe_ix (r := rIxT K) ix_tup (pe_ix (r := rIxT K) ix_tup (pv 0) (pv 9) (fun _ _ => rfl)) pe_int (fun _ _ => rfl)) pe_str (nomark _)) (pe_slice sl_list (pe_ix (r := rIxL K) ix_list (pv 6) (pv 9) (fun _ _ => rfl)) po_none (po_some (pe_op op_add (pe_bm PySem.F.plainAttrs_list PySem.F.slot_list_index PySem.F.type_list_index mt_index (pe_ix (r := rIxL K) ix_list (pv 6) (pv 9) (fun _ _ => rfl)) (pa_cons (pv 3) pa_nil)) pe_int))) (pe_lst (pa_cons (pv 3) pa_nil)))) (pss_cons (ps_setLc (i := 12) (own := [("_law_other", 11)]) (g := gName 11) (tt := tTest (tOp (rI0 fun i j => .bl (decide (j < i))) (tOp (rIxL K) (tDGet (tVar 5) (tVar 11)) (tOp (rI0 fun i j => .int (i + j)) (tVar 9) (tC (.int 1)))) (tVar 4))) (te := tVar 11) (by rfl) nd rfl rfl (sw_true rfl rfl rfl (by decide +kernel)) (pi_list (pv 10)) (blkOk_by (N := nLawPos) (sc := defScope sPosition) (by decide +kernel)) (fun _ _ _ _ _ => pg_name (i := 11) nd rfl (Or.inl rfl)) (fun _ _ _ _ _ => pts_one (pt_cmpR op_gt (pe_ix (r := rIxL K) ix_list (pe_dget hu (pv 5) (pv 11) (fun _ _ => rfl)) (pe_op op_add (pv 9) pe_int) (fun _ _ => rfl)) (pv 4) (nomark _))) (fun _ _ _ _ _ => pv 11)) (pss_cons (ps_set (i := 13) nd rfl (.inl rfl) (pe_tup (pa_cons (pe_op op_sub (pv 4) (pe_ix (r := rIxL K) ix_list (pe_dget hu (pv 5) (pv 3) (fun _ _ => rfl)) (pv 9) (fun _ _ => rfl))) (pa_cons (pe_dget hu (pv 7) (pv 3) (fun _ _ => rfl)) pa_nil)))) (pss_cons (ps_for PassesOwn.never rfl (pi_list (pv 12)) (pg_name (i := 11) nd rfl (.inl rfl)) (pss_cons (ps_set (i := 14) nd rfl (.inl rfl) (pe_tup (pa_cons (pe_op op_sub (pv 4) (pe_ix (r := rIxL K) ix_list (pe_dget hu (pv 5) (pv 11) (fun _ _ => rfl)) (pv 9) (fun _ _ => rfl))) (pa_cons (pe_dget hu (pv 7) (pv 11) (fun _ _ => rfl)) pa_nil)))) (pss_one (ps_set (i := 13) nd rfl (.inl rfl) (pe_ifExp (pt_cmpR op_lt (pe_op op_mul (pe_ix (r := rIxT K) ix_tup (pv 14) pe_int (fun _ _ => rfl)) (pe_ix (r := rIxT K) ix_tup (pv 13) pe_int (fun _ _ => rfl))) (pe_op op_mul (pe_ix (r := rIxT K) ix_tup (pv 13) pe_int (fun _ _ => rfl)) (pe_ix (r := rIxT K) ix_tup (pv 14) pe_int (fun _ _ => rfl))) (nomark _)) (pv 14) (pv 13)))))) (pss_cons (ps_set (i := 15) nd rfl (.inl rfl) (pe_op op_add (pe_op op_mul (pv 8) (pe_ix (r := rIxT K) ix_tup (pv 13) pe_int (fun _ _ => rfl))) (pe_ix (r := rIxT K) ix_tup (pv 13) pe_int (fun _ _ => rfl)))) (pss_one (ps_ret (pe_tup (pa_cons (pe_op op_fdiv (pv 15) (pe_call GV hr1 (by rfl) BV.at_ BV.fn.kp BV.bd .nil pass0 (pa_cons (pv 15) (pa_cons (pe_ix (r := rIxT K) ix_tup (pv 13) pe_int (fun _ _ => rfl)) pa_nil)))) (pa_cons (pe_op op_fdiv (pe_ix (r := rIxT K) ix_tup (pv 13) pe_int (fun _ _ => rfl)) (pe_call GV hr1 (by rfl) BV.at_ BV.fn.kp BV.bd .nil pass0 (pa_cons (pv 15) (pa_cons (pe_ix (r := rIxT K) ix_tup (pv 13) pe_int (fun _ _ => rfl)) pa_nil)))) pa_nil)))))))))) pss_nil) (pss_one (ps_set (i := 8) nd rfl (.inl rfl) (pe_op op_add (pv 8) (pe_ix (r := rIxT K) ix_tup (pe_ix (r := rIxT K) ix_tup (pv 0) (pv 9) (fun _ _ => rfl)) pe_int (fun _ _ => rfl))))))) (pss_one (ps_ret (pe_tup (pa_cons (pv 8) (pa_cons pe_int pa_nil))))))))), ?_⟩
    have ndn : (names cars).Nodup := CO.nd
    have few := SO.few
    have few10 := CO.few
    have hn' := hn
    obtain ⟨ts, a1, a2, a3⟩ := id hC
    have hal : (ts.map V.ref).length = cars.length := by rw [List.length_map, a2]
    obtain ⟨us, u1, u2, u3⟩ := id hS
    have hul : (us.map V.ref).length = secs.length := by rw [List.length_map, u2]
    have tkOf : ∀ o ∈ names cars, ∃ d, valV kt (Sum.inr o : Key) = some (.ref d) ∧ H d = some (.lst ((tkl secs cars secs.length o).map V.int)) := fun o ho => by
      obtain ⟨c, hc, rfl⟩ := List.mem_map.mp ho
      exact tk3' c hc
    have tkIx : ∀ (o : Str) (i : Nat), i ≤ secs.length → atI ((tkl secs cars secs.length o).map V.int) ((i : Nat) : Int) = some (V.int ((plcC secs cars i).tk o)) := fun o i hi => atI_nat (map_at V.int (tkl_at hi))
    obtain ⟨dn, vn, hdn⟩ := tkOf n hn
    refine ⟨_, rfl, dr, _, rfl, SqT.of hdr, rfl, _, _, rfl, _, _, rfl, rfl, ?_⟩
    -- the paces
    refine ⟨_, rfl, a, rfl, ⟨_, SqT.of a1⟩, fun D hD => ?_⟩
    refine lc_it walk_tup (fun i H4 => Same H H4 ∧ TupsAt H4 D ((cars.take i).map fun c => [V.str c.name, V.int c.pace]))
      ⟨newS hD _, tups_nil upd_same⟩ (fun i H4 _ ⟨k4, _⟩ => SqT.of (k4 _ _ a1)) ?_ ?_
    · rintro i z Hz H4 hi ⟨k4, T4⟩ ⟨e, hz⟩
      subst e
      rw [hal] at hi
      obtain ⟨c, hc⟩ : ∃ x, cars[i]? = some x := ⟨_, List.getElem?_eq_getElem hi⟩
      obtain ⟨t, ht⟩ : ∃ t, ts[i]? = some t := ⟨_, List.getElem?_eq_getElem (by omega)⟩
      have htv := a3 i t c ht hc
      obtain rfl : z = V.ref t := by
        rw [List.getElem?_map, ht] at hz
        exact (Option.some.inj hz).symm
      have htv4 := k4 _ _ htv
      obtain ⟨vs, w1, w2, w3⟩ := id T4
      refine ⟨rfl, yes_of ?_⟩
      refine ⟨_, rfl, t, _, _, _, rfl, rfl, SqT.of htv4, rfl, _, rfl, t, _, _, _, rfl, rfl, SqT.of htv4, rfl, by show 2 ≤ sizeLine; decide, fun x hx => ?_⟩
      refine ⟨vs.map V.ref, by rw [upd_ne (ne_of_none w1 hx)]; exact w1, ?_, fun p o e => ?_, ?_⟩
      · rw [List.length_map, w2, List.length_map, List.length_take]
        exact small1000 (by omega)
      · have e4 := k4 _ _ e
        rw [upd_ne (ne_of_none e hD), upd_ne (ne_of_none e4 hx)]
        exact e4
      · have := tups_push w1 w2 w3 hx [V.str c.name, V.int c.pace]
        rw [tk1 hc, List.map_append]
        exact this
    rintro H4 ⟨k4, vs, w1, w2, w3⟩
    rw [hal, List.take_length] at w2 w3
    refine ⟨D, vs, paceK cars, rfl, SqL.of w1, paired_of (by rw [w2, List.length_map]; unfold paceK; rw [List.length_map]) fun i t kv e1 e2 => ?_, fun PD hPD => ?_⟩
    · unfold paceK at e2
      rw [List.getElem?_map] at e2
      obtain ⟨c, hc, rfl⟩ := Option.map_eq_some_iff.mp e2
      exact SqT.of (w3 i t _ e1 (by rw [List.getElem?_map, hc]; rfl))
    rw [mergeK_new (by unfold paceK; rw [List.map_map]; exact names_keys ndn)]
    have S5 := k4.trans (newS hPD (.dK (paceK cars)))
    have hPD5 : upd H4 PD (.dK (paceK cars)) PD = some (.dK (paceK cars)) := upd_same
    refine ⟨_, _, rfl, ?_⟩
    generalize upd H4 PD (.dK (paceK cars)) = H5 at S5 hPD5 ⊢
    clear w1 w2 w3 k4 hPD hD
    -- it has not started
    refine ⟨_, rfl, _, rfl, _, rfl, tk, .ref dn, rfl, gSt (S5 _ _ tk1') vn, dn, _, ((0 : Nat) : Int), _, rfl, rfl, SqL.of (S5 _ _ hdn), tkIx n 0 (Nat.zero_le _), _, _, rfl, rfl, _, rfl, ?_⟩
    by_cases h0 : tick ≤ (plcC secs cars 0).tk n
    · rw [decide_eq_true h0]
      refine iteT ⟨by show 2 ≤ sizeLine; decide, fun t ht => ?_⟩
      refine k _ t (S5.trans (newS ht _)) ?_
      rw [posF_zero CO SO hn h0]
      exact upd_same
    rw [decide_eq_false h0]
    refine iteF ?_
    -- section by section
    refine ⟨_, rfl, sl, _, rfl, .inr (SqT.of (S5 _ _ u1)), (((us.map V.ref).length : Nat) : Int), rfl, by omega, by omega, ?_⟩
    rw [Int.toNat_natCast, hul]
    refine for_it walk_range (fun i σ H1 => ∃ (v9 v10 v11 v12 v13 v14 v15 v16 : Option V), σ = [some (.ref sl), some (.ref a), some (.ref dr), some (.str n), some (.int tick), some (.ref tk), some (.ref od), some (.ref PD), some (.int (unitsTo secs i)), v9, v10, v11, v12, v13, v14, v15, v16] ∧ H1 = H5 ∧ (plcC secs cars i).tk n ≤ tick)
      ⟨none, none, none, none, none, none, none, none, rfl, rfl, by omega⟩ (fun _ _ _ _ _ => True.intro) ?_ ?_
    rotate_left
    · rintro σ H1 ⟨v9, v10, v11, v12, v13, v14, v15, v16, rfl, rfl, hle⟩
      refine ⟨_, rfl, by show 2 ≤ sizeLine; decide, fun t ht => ?_⟩
      refine k _ t (S5.trans (newS ht _)) ?_
      rw [posF_end CO SO hn hle]
      exact upd_same
    rintro i x σ Hz H1 hi ⟨v9, v10, v11, v12, v13, v14, v15, v16, rfl, eH, hle⟩ ⟨e, hx⟩
    subst e
    subst eH
    obtain rfl : x = V.int ((i : Nat) : Int) := hx.trans (congrArg V.int (by omega))
    obtain ⟨s, hs⟩ : ∃ s, secs[i]? = some s := ⟨_, List.getElem?_eq_getElem hi⟩
    obtain ⟨b, len⟩ := s
    obtain ⟨u, hu0⟩ : ∃ t, us[i]? = some t := ⟨_, List.getElem?_eq_getElem (by omega)⟩
    have huv := S5 _ _ (u3 i u (b, len) hu0 hs)
    have ei : ((i : Nat) : Int) + 1 = ((i + 1 : Nat) : Int) := by omega
    have tkN : ∀ o : Str, atI ((tkl secs cars secs.length o).map V.int) (((i : Nat) : Int) + 1) = some (V.int ((plcC secs cars (i + 1)).tk o)) := fun o => by rw [ei]; exact tkIx o (i + 1) (by omega)
    refine gname_to ?_
    refine ⟨_, rfl, _, rfl, _, rfl, tk, .ref dn, rfl, gSt (S5 _ _ tk1') vn, _, rfl, _, _, rfl, rfl, dn, _, _, _, rfl, rfl, SqL.of (S5 _ _ hdn), tkN n, _, _, rfl, rfl, _, rfl, ?_⟩
    by_cases h1 : tick < (plcC secs cars (i + 1)).tk n
    · rw [decide_eq_true h1]
      refine iteT ?_
      have ordL : (plcC secs cars i).ord.length = cars.length := plc_len
      have ordN : (plcC secs cars i).ord.Nodup := plc_nd ndn
      have hno : n ∈ (plcC secs cars i).ord := plc_mem.mpr hn
      have hposl := (List.getElem?_eq_some_iff.mp (posL_at hno)).1
      obtain ⟨od1, hod1⟩ : ∃ d, os[i]? = some d := ⟨_, List.getElem?_eq_getElem (by omega)⟩
      have hO := S5 _ _ (o3 i od1 hod1)
      have hOD := S5 _ _ o1
      -- the cars that may limit it
      dsimp only
      refine seq_cut (fun σ' H' => ∃ (q10 : Addr) (v11 v12 v13 v14 v15 v16 : Option V), σ' = [some (.ref sl), some (.ref a), some (.ref dr), some (.str n), some (.int tick), some (.ref tk), some (.ref od), some (.ref PD), some (.int (unitsTo secs i)), some (.int ((i : Nat) : Int)), some (.ref q10), v11, v12, v13, v14, v15, v16] ∧ Same H1 H' ∧ H' q10 = some (.lst ((if b then [n] else (plcC secs cars i).ord.take (posL n (plcC secs cars i).ord + 1)).map V.str))) (fun nx done => ?_) ?_
      · refine ⟨_, rfl, _, rfl, sl, _, _, .ref u, rfl, rfl, SqT.of (S5 _ _ u1), atI_nat (map_at V.ref hu0), u, _, ((0 : Nat) : Int), .str (kindS b), rfl, rfl, SqT.of huv, atI_nat rfl, rfl, _, rfl, ?_⟩
        rw [show decide (V.str (kindS b) = V.str "narrow") = !b by cases b <;> decide +kernel]
        cases b with
        | true =>
          refine iteF ⟨_, rfl, by show 1 ≤ sizeLine; decide, fun q hq => ?_⟩
          exact done _ _ ⟨q, _, _, _, _, _, _, rfl, newS hq _, upd_same⟩
        | false =>
          refine iteT ⟨_, rfl, _, rfl, od, _, _, .ref od1, rfl, rfl, SqL.of hOD, atI_nat (map_at V.ref hod1), ?_⟩
          refine ⟨_, rfl, _, rfl, od, _, _, .ref od1, rfl, rfl, SqL.of hOD, atI_nat (map_at V.ref hod1), .inl ⟨rfl, _, SqL.of hO⟩, _, rfl, od1, _, .str n, posL n (plcC secs cars i).ord, .str n, rfl, rfl, SqL.of hO, rfl, flat_strs _, map_at V.str (posL_at hno), by rw [eqV_str, decide_eq_true rfl], fun m z hm hz => ?_, ?_⟩
          · rw [List.getElem?_map] at hz
            obtain ⟨a', z1, z2⟩ := Option.map_eq_some_iff.mp hz
            rw [← z2, eqV_str, decide_eq_false (posL_not z1 hm)]
          refine ⟨_, _, rfl, rfl, _, rfl, od1, _, rfl, SqL.of hO, fun q hq => ?_⟩
          have ec : cutV ((plcC secs cars i).ord.map V.str) none (some (((posL n (plcC secs cars i).ord : Nat) : Int) + 1)) = ((plcC secs cars i).ord.take (posL n (plcC secs cars i).ord + 1)).map V.str := by
            rw [show ((posL n (plcC secs cars i).ord : Nat) : Int) + 1 = ((posL n (plcC secs cars i).ord + 1 : Nat) : Int) by omega, cut_to (by rw [List.length_map]; omega), List.map_take]
          exact done _ _ ⟨q, _, _, _, _, _, _, rfl, newS hq _, by rw [upd_same]; exact congrArg (fun l => some (HO.lst l)) ec⟩
      rintro σ' H2 ⟨q10, v11, v12, v13, v14, v15, v16, rfl, s2, hq2⟩
      have S2 := S5.trans s2
      have hP2 := s2 _ _ hPD5
      have ordIn : ∀ o ∈ (if b then [n] else (plcC secs cars i).ord.take (posL n (plcC secs cars i).ord + 1)), o ∈ names cars := fun o ho => by
        cases b with
        | true => rw [List.mem_singleton.mp ho]; exact hn
        | false => exact plc_mem.mp (List.mem_of_mem_take ho)
      have ordF : (if b then [n] else (plcC secs cars i).ord.take (posL n (plcC secs cars i).ord + 1)).length ≤ 10 := by
        cases b with
        | true => show 1 ≤ 10; decide
        | false => show ((plcC secs cars i).ord.take _).length ≤ 10; rw [List.length_take]; omega
      have eBest := best_law CO hn hs h1
      generalize (if b then [n] else (plcC secs cars i).ord.take (posL n (plcC secs cars i).ord + 1)) = cand at hq2 ordIn ordF eBest
      refine ⟨_, rfl, q10, rfl, ⟨_, SqL.of hq2⟩, fun D hD => ?_⟩
      refine lc_it walk_list (fun j H3 => Same H2 H3 ∧ H3 D = some (.lst (((cand.take j).filter fun o => decide (tick < (plcC secs cars (i + 1)).tk o)).map V.str)))
        ⟨newS hD _, upd_same⟩ (fun j H3 _ ⟨k3, _⟩ => SqL.of (k3 _ _ hq2)) ?_ ?_
      · rintro j z Hz H3 hj ⟨k3, hD3⟩ ⟨e, hz⟩
        subst e
        rw [List.length_map] at hj
        obtain ⟨o, ho⟩ : ∃ o, cand[j]? = some o := ⟨_, List.getElem?_eq_getElem hj⟩
        obtain rfl : z = V.str o := by
          rw [List.getElem?_map, ho] at hz
          exact (Option.some.inj hz).symm
        obtain ⟨d', vo, hdo⟩ := tkOf o (ordIn o (List.mem_of_getElem? ho))
        have S3 := S2.trans k3
        refine ⟨rfl, ?_⟩
        refine ⟨_, rfl, _, rfl, tk, .ref d', rfl, gSt (S3 _ _ tk1') vo, _, rfl, _, _, rfl, rfl, d', _, _, _, rfl, rfl, SqL.of (S3 _ _ hdo), tkN o, _, rfl, _, _, rfl, rfl, _, rfl, ?_⟩
        have e1 : (cand.take (j + 1)).filter (fun o => decide (tick < (plcC secs cars (i + 1)).tk o)) = (cand.take j).filter (fun o => decide (tick < (plcC secs cars (i + 1)).tk o)) ++ (if tick < (plcC secs cars (i + 1)).tk o then [o] else []) := by
          rw [tk1 ho, List.filter_append]
          by_cases h : tick < (plcC secs cars (i + 1)).tk o <;> simp [h]
        rw [e1]
        by_cases h : tick < (plcC secs cars (i + 1)).tk o
        · rw [decide_eq_true h, if_pos h]
          refine iteT ⟨_, rfl, _, hD3, ?_, fun b o e => by rw [upd_ne (ne_of_none e hD)]; exact k3 _ _ e, ?_⟩
          · have := List.length_filter_le (fun o => decide (tick < (plcC secs cars (i + 1)).tk o)) (cand.take j)
            rw [List.length_take] at this
            rw [List.length_map]
            exact small1000 (by omega)
          · rw [upd_same, List.map_append]
            rfl
        · rw [decide_eq_false h, if_neg h, List.append_nil]
          exact iteF ⟨k3, hD3⟩
      rintro H3 ⟨k3, hD3⟩
      rw [List.length_map, List.take_length] at hD3
      have S3 := S2.trans k3
      have hP3 := k3 _ _ hP2
      have insIn : ∀ o ∈ cand.filter (fun o => decide (tick < (plcC secs cars (i + 1)).tk o)), o ∈ names cars := fun o ho => ordIn o (List.mem_filter.mp ho).1
      have insF : (cand.filter fun o => decide (tick < (plcC secs cars (i + 1)).tk o)).length ≤ 10 := Nat.le_trans (List.length_filter_le _ _) ordF
      generalize (cand.filter fun o => decide (tick < (plcC secs cars (i + 1)).tk o)) = ins at hD3 insIn insF eBest
      clear hq2 ordIn ordF S2 hP2 k3 s2 hO hOD hD
      -- the least fraction
      refine ⟨_, rfl, _, rfl, _, rfl, tk, .ref dn, rfl, gSt (S3 _ _ tk1') vn, _, rfl, dn, _, _, _, rfl, rfl, SqL.of (S3 _ _ hdn), tkIx n i (by omega), _, _, rfl, rfl, _, rfl, _, rfl, PD, .int (paceOf cars n), rfl, gSt hP3 (paceK_get ndn hn), by show 2 ≤ sizeLine; decide, fun bt hbt => ?_⟩
      have s4 := newS hbt (.tup (frV (ownF secs cars i tick n)))
      have hb4 : upd H3 bt (.tup (frV (ownF secs cars i tick n))) bt = some (.tup (frV (ownF secs cars i tick n))) := upd_same
      have S4 := S3.trans s4
      have hP4 := s4 _ _ hP3
      have hD4 := s4 _ _ hD3
      refine gname_to ?_
      dsimp only
      show tSeq _ _ _ _ (upd H3 bt (.tup (frV (ownF secs cars i tick n))))
      generalize upd H3 bt (.tup (frV (ownF secs cars i tick n))) = H4' at hb4 S4 hP4 hD4 ⊢
      refine ⟨_, rfl, D, rfl, ⟨_, SqL.of hD4⟩, for_it walk_list (fun j σ H6 => ∃ (bt : Addr) (v11 v14 v15 v16 : Option V), σ = [some (.ref sl), some (.ref a), some (.ref dr), some (.str n), some (.int tick), some (.ref tk), some (.ref od), some (.ref PD), some (.int (unitsTo secs i)), some (.int ((i : Nat) : Int)), some (.ref q10), v11, some (.ref D), some (.ref bt), v14, v15, v16] ∧ Same H4' H6 ∧ H6 bt = some (.tup (frV (leastF (ownF secs cars i tick n) ((ins.take j).map (ownF secs cars i tick))))))
        ⟨bt, _, _, _, _, rfl, fun _ _ z => z, hb4⟩ (fun _ _ _ _ ⟨_, _, _, _, _, _, s, _⟩ => SqL.of (s _ _ hD4)) ?_ ?_⟩
      · rintro j z σ Hz H6 hj ⟨bt, v11, v14, v15, v16, rfl, s6, hb6⟩ ⟨e, hz⟩
        subst e
        rw [List.length_map] at hj
        obtain ⟨o, ho⟩ : ∃ o, ins[j]? = some o := ⟨_, List.getElem?_eq_getElem hj⟩
        obtain rfl : z = V.str o := by
          rw [List.getElem?_map, ho] at hz
          exact (Option.some.inj hz).symm
        have hom := insIn o (List.mem_of_getElem? ho)
        obtain ⟨d', vo, hdo⟩ := tkOf o hom
        have S6 := S4.trans s6
        have hc := least_in (P := fun q : Fr => 0 < q.2 ∧ q.2 ≤ 60) (f := ownF secs cars i tick n) (pace_pos CO hn) (l := (ins.take j).map (ownF secs cars i tick)) fun r hr => by
          obtain ⟨o', ho', rfl⟩ := List.mem_map.mp hr
          exact pace_pos CO (insIn o' (List.mem_of_mem_take ho'))
        have hq := pace_pos CO hom
        rw [tk1 ho, List.map_append]
        have eS : leastF (ownF secs cars i tick n) ((ins.take j).map (ownF secs cars i tick) ++ [o].map (ownF secs cars i tick)) = lessF (leastF (ownF secs cars i tick n) ((ins.take j).map (ownF secs cars i tick))) (ownF secs cars i tick o) := least_snoc _ _ _
        rw [eS]
        generalize leastF (ownF secs cars i tick n) ((ins.take j).map (ownF secs cars i tick)) = m at hb6 hc ⊢
        refine gname_to ?_
        refine ⟨_, rfl, _, rfl, _, rfl, tk, .ref d', rfl, gSt (S6 _ _ tk1') vo, _, rfl, d', _, _, _, rfl, rfl, SqL.of (S6 _ _ hdo), tkIx o i (by omega), _, _, rfl, rfl, _, rfl, _, rfl, PD, .int (paceOf cars o), rfl, gSt (s6 _ _ hP4) (paceK_get ndn hom), by show 2 ≤ sizeLine; decide, fun nt hnt => ?_⟩
        have s7 := newS hnt (.tup (frV (ownF secs cars i tick o)))
        have hn7 : upd H6 nt (.tup (frV (ownF secs cars i tick o))) nt = some (.tup (frV (ownF secs cars i tick o))) := upd_same
        have hb7 := s7 _ _ hb6
        have s67 := s6.trans s7
        refine gname_to ?_
        dsimp only
        show tAsg _ _ _ _ (upd H6 nt (.tup (frV (ownF secs cars i tick o))))
        generalize upd H6 nt (.tup (frV (ownF secs cars i tick o))) = H7 at hn7 hb7 s67 ⊢
        have hfq : (ownF secs cars i tick o).2 = paceOf cars o := rfl
        generalize ownF secs cars i tick o = q at hn7 hfq ⊢
        refine ⟨_, rfl, nt, _, ((0 : Nat) : Int), .int q.1, rfl, rfl, SqT.of hn7, atI_nat rfl, _, rfl, bt, _, ((1 : Nat) : Int), .int m.2, rfl, rfl, SqT.of hb7, atI_nat rfl, _, _, rfl, rfl, .inr ⟨by omega, by omega⟩, ?_⟩
        refine ⟨_, rfl, bt, _, ((0 : Nat) : Int), .int m.1, rfl, rfl, SqT.of hb7, atI_nat rfl, _, rfl, nt, _, ((1 : Nat) : Int), .int q.2, rfl, rfl, SqT.of hn7, atI_nat rfl, _, _, rfl, rfl, .inr ⟨by omega, by omega⟩, _, _, rfl, rfl, _, rfl, ?_⟩
        by_cases h : q.1 * m.2 < m.1 * q.2
        · rw [decide_eq_true h]
          exact iteT ⟨_, rfl, nt, _, _, _, _, rfl, s67, by unfold lessF; rw [if_pos h]; exact hn7⟩
        · rw [decide_eq_false h]
          exact iteF ⟨_, rfl, bt, _, _, _, _, rfl, s67, by unfold lessF; rw [if_neg h]; exact hb7⟩
      rintro σ H6 ⟨bt, v11, v14, v15, v16, rfl, s6, hb6⟩
      rw [List.length_map, List.take_length, eBest] at hb6
      have hbest : 0 < (bestF secs cars i n tick).2 ∧ (bestF secs cars i n tick).2 ≤ 60 := by
        rw [← eBest]
        exact least_in (P := fun q : Fr => 0 < q.2 ∧ q.2 ≤ 60) (f := ownF secs cars i tick n) (pace_pos CO hn) fun r hr => by
          obtain ⟨o', ho', rfl⟩ := List.mem_map.mp hr
          exact pace_pos CO (insIn o' ho')
      have ePos := posF_at CO SO hn hi hle h1
      have S6 := S4.trans s6
      generalize bestF secs cars i n tick = bf at hb6 hbest ePos
      generalize unitsTo secs i = un at ePos ⊢
      refine ⟨_, rfl, _, rfl, bt, _, ((1 : Nat) : Int), .int bf.2, rfl, rfl, SqT.of hb6, atI_nat rfl, _, _, rfl, rfl, .inr ⟨by omega, by omega⟩, _, rfl, bt, _, ((0 : Nat) : Int), .int bf.1, rfl, rfl, SqT.of hb6, atI_nat rfl, _, _, rfl, rfl, ?_⟩
      have eTop : un * bf.2 + bf.1 = (addU un bf).1 := Int.add_comm _ _
      have gpos : 0 < Nat.gcd (un * bf.2 + bf.1).natAbs bf.2.natAbs := Nat.gcd_pos_of_pos_right _ (by omega)
      have gle : Nat.gcd (un * bf.2 + bf.1).natAbs bf.2.natAbs ≤ bf.2.natAbs := Nat.gcd_le_right _ (by omega)
      have gI : CDiv 0 ((Nat.gcd (un * bf.2 + bf.1).natAbs bf.2.natAbs : Nat) : Int) := ⟨by omega, by omega⟩
      refine ⟨_, rfl, _, rfl, _, rfl, bt, _, ((1 : Nat) : Int), .int bf.2, rfl, rfl, SqT.of hb6, atI_nat rfl, _, _, rfl, by omega, by omega, _, _, rfl, rfl, gI, ?_⟩
      refine ⟨_, rfl, bt, _, ((1 : Nat) : Int), .int bf.2, rfl, rfl, SqT.of hb6, atI_nat rfl, _, rfl, _, rfl, bt, _, ((1 : Nat) : Int), .int bf.2, rfl, rfl, SqT.of hb6, atI_nat rfl, _, _, rfl, by omega, by omega, _, _, rfl, rfl, gI, by show 2 ≤ sizeLine; decide, fun t ht => ?_⟩
      refine k _ t (S6.trans (newS ht _)) ?_
      rw [ePos]
      have e2 : frV (redF (addU un bf)) = [V.int ((un * bf.2 + bf.1) / ((Nat.gcd (un * bf.2 + bf.1).natAbs bf.2.natAbs : Nat) : Int)), V.int (bf.2 / ((Nat.gcd (un * bf.2 + bf.1).natAbs bf.2.natAbs : Nat) : Int))] := by
        rw [eTop]
        rfl
      rw [e2]
      exact upd_same
    · rw [decide_eq_false h1]
      refine iteF ?_
      refine ⟨_, rfl, _, rfl, _, rfl, sl, _, _, .ref u, rfl, rfl, SqT.of (S5 _ _ u1), atI_nat (map_at V.ref hu0), u, _, ((1 : Nat) : Int), _, rfl, rfl, SqT.of huv, atI_nat rfl, _, _, rfl, rfl, ?_⟩
      exact ⟨_, _, _, _, _, _, _, _, by rw [units_succ hs]; rfl, rfl, by omega⟩
end
end Sl

set_option Elab.async false
set_option linter.all false
set_option maxRecDepth 100000
set_option maxHeartbeats 1000000
namespace Sl
open PySem PySem.Spec L2 OwnR LamX
/-! ### what the law compares, as data -/
def NamesOk (cars : List Car) : Prop := ∀ n ∈ names cars, PyData.strOk n = true
theorem namesOk {cars : List Car} (CO : CarsOk cars) : NamesOk cars := fun n hn => by
  obtain ⟨c, hc, rfl⟩ := List.mem_map.mp hn
  obtain ⟨_, _, h⟩ := (CO.all c hc).nm
  unfold PyData.strOk
  rw [Array.all_eq_true_iff_forall_mem]
  intro x hx
  have := h x (by rw [Array.mem_toList_iff]; exact hx)
  simp
  omega
def intsD (l : List Int) : PyData := .list (l.map PyData.int)
theorem shp_intsD (l : List Int) : Shp 1 (intsD l) := shp_list fun d hd => by
  obtain ⟨i, _, rfl⟩ := List.mem_map.mp hd
  exact shp_int i
theorem dp_ints {K : PySem.W.Frag} {H : Hp} {a : Addr} {l : List Int} (h : H a = some (.lst (l.map V.int))) : Dp K H (.ref a) (intsD l) := .lst (SqL.of h) (dp_vals V.int PyData.int (fun i => .int i) l)
def strsD (l : List Str) : PyData := .list (l.map PyData.str)
theorem shp_strsD {l : List Str} (h : ∀ n ∈ l, PyData.strOk n = true) : Shp 1 (strsD l) := shp_list fun d hd => by
  obtain ⟨i, hi, rfl⟩ := List.mem_map.mp hd
  exact shp_str (h i hi)
theorem dp_strs {K : PySem.W.Frag} {H : Hp} {a : Addr} {l : List Str} (h : H a = some (.lst (l.map V.str))) : Dp K H (.ref a) (strsD l) := .lst (SqL.of h) (dp_vals V.str PyData.str (fun i => .str i) l)
def optD : Option Str → PyData
  | some s => .str s
  | none => .none
theorem dp_opt {K : PySem.W.Frag} {H : Hp} (o : Option Str) : Dp K H (strO o) (optD o) := by
  cases o with
  | none => exact .non
  | some s => exact .str s
def optsD (l : List (Option Str)) : PyData := .list (l.map optD)
theorem shp_optsD {l : List (Option Str)} (h : ∀ n, some n ∈ l → PyData.strOk n = true) : Shp 1 (optsD l) := shp_list fun d hd => by
  obtain ⟨o, ho, rfl⟩ := List.mem_map.mp hd
  cases o with
  | none => exact shp_non
  | some s => exact shp_str (h s ho)
theorem dp_opts {K : PySem.W.Frag} {H : Hp} {a : Addr} {l : List (Option Str)} (h : H a = some (.lst (l.map strO))) : Dp K H (.ref a) (optsD l) := .lst (SqL.of h) (dp_vals strO optD dp_opt l)
/-- leaders are cars -/
theorem foll_lead (fr : Str → Int) (ord : List Str) : ∀ r ∈ foll fr ord, ∀ m, r.2.2 = some m → m ∈ ord := by
  have h : ∀ (l : List Str) (pre : List Str) (acc : List (RowT Str)), acc.map (·.1) = pre → (∀ r ∈ acc, ∀ m, r.2.2 = some m → m ∈ pre) → ∀ r ∈ l.foldl (fun acc n => acc ++ [fnext fr acc n]) acc, ∀ m, r.2.2 = some m → m ∈ pre ++ l := by
    intro l
    induction l with
    | nil => intro pre acc _ h; simpa using h
    | cons n q ih =>
      intro pre acc e h
      rw [List.foldl_cons]
      have := ih (pre ++ [n]) (acc ++ [fnext fr acc n]) (by rw [List.map_append, e]; simp [fnext_name]) fun r hr m hm => by
        rcases List.mem_append.mp hr with hr | hr
        · exact List.mem_append_left _ (h r hr m hm)
        · rw [List.mem_singleton.mp hr] at hm
          refine List.mem_append_left _ ?_
          unfold fnext at hm
          split at hm
          · cases hm
          · rename_i a t lo hl
            have hmem := List.mem_of_getLast? hl
            split at hm
            · have hm : some (lo.getD a) = some m := hm
              have hm := Option.some.inj hm
              cases lo with
              | none =>
                rw [← hm, ← e]
                exact List.mem_map.mpr ⟨_, hmem, rfl⟩
              | some b =>
                rw [← hm]
                exact h _ hmem b rfl
            · cases hm
      simpa using this
  intro r hr m hm
  have := h ord [] [] rfl (fun r hr => nomatch hr) r hr m hm
  simpa using this
theorem ldrC_in {secs : List Sec} {cars : List Car} {k : Nat} {n m : Str} (h : ldrC secs cars k n = some m) : m ∈ names cars := by
  have h : ldr (paceOf cars) (pl0 cars) secs k n = some m := h
  unfold ldr at h
  cases hs : secs[k]? with
  | none => rw [hs] at h; cases h
  | some s =>
    rw [hs] at h
    have h : leadP (paceOf cars) (plcC secs cars k) s n = some m := h
    unfold leadP at h
    split at h
    · cases h
    · unfold leadOf look at h
      cases q : (foll (freeP (paceOf cars) (plcC secs cars k) s.2) (plcC secs cars k).ord).find? (fun r => decide (r.1 = n)) with
      | none => rw [q] at h; cases h
      | some r =>
        rw [q] at h
        have h : r.2.2 = some m := h
        exact (plcC_perm secs cars k).mem_iff.mp (foll_lead _ _ r (List.mem_of_find?_eq_some q) m h)
theorem ord_ok {secs : List Sec} {cars : List Car} (CO : CarsOk cars) (k : Nat) : ∀ n ∈ (plcC secs cars k).ord, PyData.strOk n = true := fun n hn => namesOk CO n ((plcC_perm secs cars k).mem_iff.mp hn)
def ordsD (secs : List Sec) (cars : List Car) : PyData := .list ((List.range (secs.length + 1)).map fun k => strsD (plcC secs cars k).ord)
theorem shp_ordsD {secs : List Sec} {cars : List Car} (CO : CarsOk cars) : Shp 2 (ordsD secs cars) := shp_list fun d hd => by
  obtain ⟨k, _, rfl⟩ := List.mem_map.mp hd
  exact shp_strsD (ord_ok CO k)
theorem dp_ords {K : PySem.W.Frag} {H : Hp} {a : Addr} {secs : List Sec} {cars : List Car} (h : OrdsAt H a secs cars) : Dp K H (.ref a) (ordsD secs cars) := by
  obtain ⟨os, h1, h2, h3⟩ := h
  refine .lst (SqL.of h1) (dp_refs (fun k => strsD (plcC secs cars k).ord) (by rw [h2, List.length_range]) fun i b k e1 e2 => ?_)
  have hi : i < secs.length + 1 := by
    have := (List.getElem?_eq_some_iff.mp e1).1
    omega
  rw [List.getElem?_range hi] at e2
  cases e2
  exact dp_strs (h3 i b e1)
end Sl

set_option Elab.async false
set_option linter.all false
set_option maxRecDepth 100000
set_option maxHeartbeats 4000000
namespace Sl
open PySem PySem.Spec L2 OwnR LamX
/-! ### what a draw keeps, what a told one keeps -/
section
variable {K : PySem.W.Frag} {H H' : Hp} {r sc : Addr} {ns : List Int}
theorem RowAt.neR (R : RowAt K H r sc ns) {a : Addr} {l : List Addr} (h : H a = some (.lst (l.map V.ref))) : a ≠ r := fun z => by
  obtain ⟨x, b, c, e⟩ := R.at_
  rw [z, e] at h
  cases l with
  | nil => cases h
  | cons u q =>
    cases q with
    | nil => cases h
    | cons v w => cases h
theorem RowAt.neI (R : RowAt K H r sc ns) {a : Addr} {l : List Int} (h : H a = some (.lst (l.map V.int))) : a ≠ r := fun z => by
  obtain ⟨x, b, c, e⟩ := R.at_
  rw [z, e] at h
  cases l with
  | nil => cases h
  | cons u q => cases h
theorem RowAt.neS (R : RowAt K H r sc ns) {a : Addr} {l : List Str} (h : H a = some (.lst (l.map V.str))) : a ≠ r := fun z => by
  obtain ⟨x, b, c, e⟩ := R.at_
  rw [z, e] at h
  cases l with
  | nil => cases h
  | cons u q => cases h
theorem RowAt.neO (R : RowAt K H r sc ns) {a : Addr} {o : HO} (h : H a = some o) (n : ∀ xs, o ≠ .lst xs) : a ≠ r := by
  obtain ⟨x, b, c, e⟩ := R.at_
  exact ne_of h e (n _)
/-- what neither a draw nor a told one touches -/
inductive Nice : HO → Prop
  | tup (xs : List V) : Nice (.tup xs)
  | dk (kv : List (Key × V)) : Nice (.dK kv)
  | refs (l : List Addr) : Nice (.lst (l.map V.ref))
  | nums (l : List Int) : Nice (.lst (l.map V.int))
  | txts (l : List Str) : Nice (.lst (l.map V.str))
def NK (H H' : Hp) : Prop := ∀ b o, H b = some o → Nice o → H' b = some o
/-- all but objects and tables stays -/
def Kg (H H' : Hp) : Prop := ∀ b o, H b = some o → (∀ C d fs, o ≠ .ins C d fs) → (∀ ps, o ≠ .tbl ps) → H' b = some o
theorem Kg.nk (k : Kg H H') : NK H H' := fun b o h n => by
  cases n <;> exact k b _ h (fun _ _ _ z => nomatch z) (fun _ z => nomatch z)
theorem Kg.of (e : ExtN H H') : Kg H H' := fun b o h _ n => e b o h n
theorem Kg.same (e : Same H H') : Kg H H' := fun b o h _ _ => e b o h
theorem Kg.kp {p CH dx : Addr} {fs : List (Str × V)} (hp : H p = some (.ins CH dx fs)) (k : KpP p H H') : Kg H H' := fun b o h n t => k.get h (ne_of h hp (n _ _ _)) t
theorem NK.keep (R : RowAt K H r sc ns) (k : KeepB r H H') : NK H H' := fun b o h n => by
  cases n with
  | tup xs => exact k _ _ h (R.neO h fun _ z => nomatch z)
  | dk kv => exact k _ _ h (R.neO h fun _ z => nomatch z)
  | refs l => exact k _ _ h (R.neR h)
  | nums l => exact k _ _ h (R.neI h)
  | txts l => exact k _ _ h (R.neS h)
theorem RowAt.kg (R : RowAt K H r sc ns) (k : Kg H H') : RowAt K H' r sc ns := by
  obtain ⟨a, b, c, e⟩ := R.at_
  refine ⟨⟨a, b, c, k _ _ e (fun _ _ _ z => nomatch z) (fun _ z => nomatch z)⟩, fun H2 k2 => ?_⟩
  have mr : ∀ {x : Addr} {o : HO}, mask r H x = some o → x ≠ r ∧ H x = some o := fun h => mask_some h
  rcases R.scr (mask r H) (fun x o h n => by rw [mask_ne n]; exact h) with (h | ⟨o, h⟩) | h
  · exact .inl (.inl (k2 _ _ (k _ _ (mr h).2 (fun _ _ _ z => nomatch z) (fun _ z => nomatch z)) (mr h).1))
  · exact .inl (.inr ⟨o, k2 _ _ (k _ _ (mr h).2 (fun _ _ _ z => nomatch z) (fun _ z => nomatch z)) (mr h).1⟩)
  · exact .inr h
theorem RunsAt.nk {a : Addr} {secs : List Sec} (h : RunsAt H a secs) (k : NK H H') : RunsAt H' a secs :=
  let ⟨ts, h1, h2, h3⟩ := h; ⟨ts, k _ _ h1 (.refs _), h2, fun i t s e1 e2 => k _ _ (h3 i t s e1 e2) (.tup _)⟩
theorem CarsAt.nk {a : Addr} {cars : List Car} (h : CarsAt H a cars) (k : NK H H') : CarsAt H' a cars :=
  let ⟨ts, h1, h2, h3⟩ := h; ⟨ts, k _ _ h1 (.tup _), h2, fun i t s e1 e2 => k _ _ (h3 i t s e1 e2) (.tup _)⟩
theorem TupsAt.nk {a : Addr} {vss : List (List V)} (h : TupsAt H a vss) (k : NK H H') : TupsAt H' a vss :=
  let ⟨ts, h1, h2, h3⟩ := h; ⟨ts, k _ _ h1 (.refs _), h2, fun i t s e1 e2 => k _ _ (h3 i t s e1 e2) (.tup _)⟩
theorem TksAt.nk {a : Addr} {secs : List Sec} {cars : List Car} (h : TksAt H a secs cars) (k : NK H H') : TksAt H' a secs cars :=
  let ⟨kt, a, e, b⟩ := h; ⟨kt, k _ _ a (.dk _), e, fun c hc => let ⟨d, x, y⟩ := b c hc; ⟨d, x, k _ _ y (.nums _)⟩⟩
theorem OrdsAt.nk {a : Addr} {secs : List Sec} {cars : List Car} (h : OrdsAt H a secs cars) (k : NK H H') : OrdsAt H' a secs cars :=
  let ⟨os, a, b, c⟩ := h; ⟨os, k _ _ a (.refs _), b, fun q d h => k _ _ (c q d h) (.txts _)⟩
theorem Tabs.row {T : List (Addr × Str)} (t : Tabs T H) (R : RowAt K H r sc ns) (k : KeepB r H H') : Tabs T H' := Tabs.keepL t fun b o h n => k _ _ h (R.neO h n)
/-- what stands, but for the row that a draw changes -/
theorem StAt.keep {CR t : Addr} {s : LS} (h : StAt CR H t s) (R : RowAt K H r sc ns) (k : KeepB r H H') : StAt CR H' t s := by
  have ko : ∀ (a : Addr) (o : HO), H a = some o → (∀ xs, o ≠ .lst xs) → H' a = some o := fun a o h n => k _ _ h (R.neO h n)
  exact h.nl fun b o h n _ => ko b o h n
theorem StsAt.keep {CR l : Addr} {ss : List LS} (h : StsAt CR H l ss) (R : RowAt K H r sc ns) (k : KeepB r H H') : StsAt CR H' l ss := by
  obtain ⟨ts, h1, h2, h3⟩ := h
  exact ⟨ts, k _ _ h1 (R.neR h1), h2, fun i t s e1 e2 => (h3 i t s e1 e2).keep R k⟩
theorem LvAt.keep {CL CR x dx : Addr} {ss un : List LS} (h : LvAt CL CR H x dx ss un) (R : RowAt K H r sc ns) (k : KeepB r H H') : LvAt CL CR H' x dx ss un := by
  obtain ⟨sl, ul, ks, ku, h1, h2, h3⟩ := h
  exact ⟨sl, ul, ks, ku, k _ _ h1 (R.neO h1 fun _ z => nomatch z), h2.keep R k, h3.keep R k⟩
theorem PairsAt.nk {d : Addr} {ns : List Str} {g : Str → Int × Int} (h : PairsAt H d ns g) (k : NK H H') : PairsAt H' d ns g := by
  obtain ⟨ts, h1, h2, h3⟩ := h
  exact ⟨ts, k _ _ h1 (.dk _), h2, fun i t m e1 e2 => k _ _ (h3 i t m e1 e2) (.tup _)⟩
/-- what the law holds of a road and its cars -/
def HAt (H : Hp) (h : Addr) (S : St2) : Prop := ∃ l a : Addr, H h = some (.tup [.ref l, .ref a]) ∧ RunsAt H l S.1 ∧ CarsAt H a S.2
theorem HAt.nk {h : Addr} {S : St2} (hh : HAt H h S) (k : NK H H') : HAt H' h S := by
  obtain ⟨l, a, h1, h2, h3⟩ := hh
  exact ⟨l, a, k _ _ h1 (.tup _), h2.nk k, h3.nk k⟩
/-- the law's own past: operations, and what was there before -/
def PastAt (H : Hp) (l : Addr) (ps : List (Op × St2)) : Prop := ∃ ts : List Addr, H l = some (.lst (ts.map V.ref)) ∧ ts.length = ps.length ∧ ∀ (i : Nat) (t : Addr) (q : Op × St2), ts[i]? = some t → ps[i]? = some q → ∃ d h : Addr, H t = some (.tup [.ref d, .ref h]) ∧ H d = some (.tup q.1.vs) ∧ HAt H h q.2
theorem PastAt.nk {l : Addr} {ps : List (Op × St2)} (h : PastAt H l ps) (k : NK H H') : PastAt H' l ps := by
  obtain ⟨ts, h1, h2, h3⟩ := h
  refine ⟨ts, k _ _ h1 (.refs _), h2, fun i t q e1 e2 => ?_⟩
  obtain ⟨d, hh, a1, a2, a3⟩ := h3 i t q e1 e2
  exact ⟨d, hh, k _ _ a1 (.tup _), k _ _ a2 (.tup _), a3.nk k⟩
end
end Sl
namespace Sl
open PySem PySem.Spec L2 OwnR LamX
theorem eqvAll_strs : ∀ a b : List Str, PyData.eqvAll (a.map PyData.str) (b.map PyData.str) = decide (a = b)
  | [], [] => rfl
  | [], _ :: _ => rfl
  | _ :: _, [] => rfl
  | x :: a, y :: b => by
    show (PyData.eqv (.str x) (.str y) && PyData.eqvAll (a.map PyData.str) (b.map PyData.str)) = _
    rw [eqvAll_strs a b]
    by_cases h : x = y <;> by_cases g : a = b <;> simp [PyData.eqv, h, g]
theorem eqv_strsD (a b : List Str) : PyData.eqv (strsD a) (strsD b) = decide (a = b) := eqvAll_strs a b
theorem eqvAll_ints : ∀ a b : List Int, PyData.eqvAll (a.map PyData.int) (b.map PyData.int) = decide (a = b)
  | [], [] => rfl
  | [], _ :: _ => rfl
  | _ :: _, [] => rfl
  | x :: a, y :: b => by
    show (PyData.eqv (.int x) (.int y) && PyData.eqvAll (a.map PyData.int) (b.map PyData.int)) = _
    rw [eqvAll_ints a b]
    by_cases h : x = y <;> by_cases g : a = b <;> simp [PyData.eqv, h, g]
theorem eqv_intsD (a b : List Int) : PyData.eqv (intsD a) (intsD b) = decide (a = b) := eqvAll_ints a b
/-! ### cars as data -/
def carD (c : Car) : PyData := .tuple [.str c.name, .int c.start, .int c.pace]
def carsD (cars : List Car) : PyData := .tuple (cars.map carD)
theorem dp_cars {K : PySem.W.Frag} {H : Hp} {a : Addr} {cars : List Car} (h : CarsAt H a cars) : Dp K H (.ref a) (carsD cars) := by
  obtain ⟨ts, h1, h2, h3⟩ := h
  exact .tup (SqT.of h1) (dp_refs carD h2 fun i t c e1 e2 => .tup (SqT.of (h3 i t c e1 e2)) (.cons (.str _) (.cons (.int _) (.cons (.int _) .nil))))
theorem shp_cars {cars : List Car} (h : ∀ c ∈ cars, PyData.strOk c.name = true) : Shp 2 (carsD cars) := shp_tuple fun d hd => by
  obtain ⟨c, hc, rfl⟩ := List.mem_map.mp hd
  refine shp_tuple fun e he => ?_
  rcases List.mem_cons.mp he with rfl | he
  · exact shp_str (h c hc)
  · rcases List.mem_cons.mp he with rfl | he
    · exact shp_int _
    · rw [List.mem_singleton.mp he]
      exact shp_int _
theorem cars_nil (cars : List Car) : PyData.eqv (carsD cars) (.tuple []) = decide (cars = []) := by
  cases cars with
  | nil => rfl
  | cons c r => rfl
/-! ### observations as data -/
def vD : V → PyData
  | .int i => .int i
  | .str s => .str s
  | _ => .none
end Sl

set_option Elab.async false
set_option linter.all false
set_option maxRecDepth 100000
set_option maxHeartbeats 2000000
/-! told(lambda: ..), the lambda made at the call: a reading that says nothing of the context (for comprehensions). -/
namespace OwnR
open PySem PySem.Spec PyProof.Rows L2 LamX
section
variable {X : Cx}
def tToldL (Tb : List (Addr × Str)) (TT : (XK → Hp → VK → Prop) → Hp → VK → Prop) (t : XK → TE) : TE := fun σ H Q => Tabs Tb H ∧ ∀ H1, ExtN H H1 → Tabs Tb H1 → TT (fun E H' Q' => t E σ H' Q') H1 Q
theorem pe_toldL {x a : Str} {g : Addr} {Ng : List Str} {bg : List Stmt} {sg : Scope} {cdv : Value} {k : Nat} {TT : (XK → Hp → VK → Prop) → Hp → VK → Prop} {e : Expr} {p pos : Pos} {Tb : List (Addr × Str)} {T : LamT} {t : XK → TE} (W : Teller X.K X.mg x a g Ng bg sg cdv) (hg : Gl X x)
    (hG : GivesV X.prog X.w X.K X.mg X.base X.A X.stack Ng x sg g cdv bg a TT) (hr : Room (k + 2) X.A) (he : PE X e (tLamV Tb (lq X) (lcl X T) T)) (L : LamS2 X.N X.env.scope T) (B : LamB T) (hb : LamPE X T k t) (hdb : (x == ("__debug__" : Str)) = false := by decide) (hd : (a == ("__debug__" : Str)) = false := by decide) (hcd : (a == ("__classdict__" : Str)) = false := by decide)
    (h1 : starEach [e] X.env = (false, eval e X.env) :: starEach [] X.env := by rfl) (h2 : (backTo pos (starEach [] X.env)).any (·.1) = false := by rfl) :
    PE X (.Call (.Name x p) [e] [] pos) (tToldL Tb TT t) :=
  ⟨fun pins s σ H Q I h => (pe_told W hg hG hr he hdb hd hcd h1 h2).run pins s σ H Q I ⟨h.1, fun H1 f e1 T1 hv => ⟨f, T, t, rfl, L, B, hb, hv, h.2 H1 e1 T1⟩⟩⟩
end
end OwnR

set_option Elab.async false
set_option linter.all false
set_option maxRecDepth 100000
set_option maxHeartbeats 4000000
namespace Sl
open PySem PySem.Spec L2 OwnR LamX
def qLaw : Str := ("law" : Str) ++ (".<locals>." : Str) ++ ("<lambda>" : Str)
def nLaw : List Str := ["_law_script", "_law_row", "_law_sections_here", "_law_cars_here", "_law_live", "_law_name", "_law_start", "_law_pace", "_law_drive_here", "_law_last", "_law_turn", "_law_near", "_law_tick", "_law_bad", "_law_ticks"]
theorem scLaw : FnScope nLaw ["_law_script"] (defScope sLaw) := ⟨rfl, rfl, rfl, by decide +kernel, rfl, by decide +kernel, by decide +kernel⟩
/-- a call that raises nothing, of a def that may -/
theorem passE0 {X : Cx} {P : Program} {w : World} : Passes (L2.CX P w) X L2.E0 := fun _ _ _ _ _ _ _ h => by
  obtain ⟨_, _, _, _, _, _, _, _, _, _, _, _, h⟩ := h
  exact h.elim
abbrev scBad : Scope := { kind := ScopeKind.function, names := [(".0", NameKind.local), ("_law_bad", NameKind.cell), ("_law_raised", NameKind.globalImplicit), ("_law_live", NameKind.cell)], isGenerator := false, isCoroutine := false }
/-- all that the law asks of the program -/
structure Env43 (P : Program) (w : World) (K : PySem.W.Frag) (mg : Str → Option Value) (base : Heap) (CR CL CNm CMy CU CE c0 c1 c2 c3 c4 c5 c6 c7 c8 c9 c10 c11 c12 c13 : Addr) (T : List (Addr × Str)) : Prop where
  M : Mg mg
  mmx : mg "max" = none
  LT : LivT K CL
  RT : RsTab mg CE c0 c1 c2 c3 c4 c5 c6 c7 c8 c9 c10 c11 c12 c13
  rU : RsJ K CE c0 c1 c2 c3 c4 c5 c6 c7 c8 c9 c10 c11 c12 c13 CU 7
  rN : RsJ K CE c0 c1 c2 c3 c4 c5 c6 c7 c8 c9 c10 c11 c12 c13 c9 9
  taken : ∃ f fd, Fb K mg "_law_taken" sTaken ["_law_row", "_law_many"] f fd ∧ FnOk P w K mg base CX0 1 f fd ["_law_row", "_law_many"] (spTaken K)
  secs : ∃ f fd, Fb K mg "_law_sections" sSections ["_law_row", "_law_most"] f fd ∧ FnOk P w K mg base CX0 2 f fd ["_law_row", "_law_most"] (spSectC K)
  joined : ∃ f fd, Fb K mg "_law_joined" sJoined ["_law_sections_here"] f fd ∧ FnOk P w K mg base CX0 1 f fd ["_law_sections_here"] spJoined
  cars : ∃ f fd, Fb K mg "_law_cars" sCars ["_law_row", "_law_most"] f fd ∧ FnOk P w K mg base CX0 2 f fd ["_law_row", "_law_most"] (spCarsC K)
  road : ∃ f fd, Fb K mg "_law_road" sLRoad ["_law_sections_here"] f fd ∧ FnOk P w K mg base CX0 6 f fd ["_law_sections_here"] (spRoadC CR)
  make : ∃ f fd, Mk K CL f ∧ mg "LiveRoad" = some (.ref CL) ∧ Binds K fd ["self", "road"] [] ∧ FnOk P w K mg base CX0 1 f fd ["self", "road"] (spLInit CL CR)
  join : ∃ f fd, Fm K CL "join" "LiveRoad.join" sLiveRoadJoin ["self", "name", "start", "pace"] f fd ∧ FnOk P w K mg base (L2.CX P w) 11 f fd ["self", "name", "start", "pace"] (spMJoin CL CR CNm CMy CU T)
  drive : ∃ f fd, Fb K mg "_law_drive" sLDrive ["_law_sections_here", "_law_cars_here"] f fd ∧ FnOk P w K mg base CX0 2 f fd ["_law_sections_here", "_law_cars_here"] spDriveC
  lawpos : ∃ f fd, Fb K mg "_law_position" sPosition ["_law_sections_here", "_law_cars_here", "_law_drive_here", "_law_name", "_law_tick"] f fd ∧ FnOk P w K mg base CX0 2 f fd ["_law_sections_here", "_law_cars_here", "_law_drive_here", "_law_name", "_law_tick"] spLawPos
  alike : ∃ f fd, Fb K mg "_law_alike" sAlike ["_law_one", "_law_due"] f fd ∧ FnOk P w K mg base CX0 2 f fd ["_law_one", "_law_due"] (spAlike 1)
  pos : ∃ f fd, Fm K CL "position" "LiveRoad.position" sLiveRoadPosition ["self", "name", "tick"] f fd ∧ FnOk P w K mg base (L2.CX P w) 8 f fd ["self", "name", "tick"] (spLPos CL CR CU c9 T)
  raised : ∃ g cdv, Teller K mg "_law_raised" "_law_work" g nRaised (defBody sRaised) (defScope sRaised) cdv
theorem SecsAt.nk {H H' : Hp} {a : Addr} {secs : List Sec} (h : SecsAt H a secs) (k : NK H H') : SecsAt H' a secs :=
  let ⟨ts, h1, h2, h3⟩ := h; ⟨ts, k _ _ h1 (.tup _), h2, fun i t s e1 e2 => k _ _ (h3 i t s e1 e2) (.tup _)⟩
/-- what stands while the cars join -/
structure J43 (K : PySem.W.Frag) (CL CR : Addr) (T : List (Addr × Str)) (H : Hp) (r sc x dx sl a : Addr) (ns : List Int) (secs : List Sec) (cars : List Car) (ss : List LS) (i : Nat) : Prop where
  row : RowAt K H r sc ns
  tab : Tabs T H
  lv : LvAt CL CR H x dx ss []
  last : ∃ q, ss.getLast? = some ((secs, cars.take i), q)
  len : ss.length = i + 1
  se : SecsAt H sl secs
  ca : CarsAt H a cars
theorem J43.keep {K : PySem.W.Frag} {CL CR : Addr} {T : List (Addr × Str)} {H H' : Hp} {r sc x dx sl a : Addr} {ns : List Int} {secs : List Sec} {cars : List Car} {ss : List LS} {i : Nat} (J : J43 K CL CR T H r sc x dx sl a ns secs cars ss i) (k : KeepB r H H') (R : RowAt K H' r sc ns) : J43 K CL CR T H' r sc x dx sl a ns secs cars ss i :=
  ⟨R, Tabs.row J.tab J.row k, J.lv.keep J.row k, J.last, J.len, J.se.nk (NK.keep J.row k), J.ca.nk (NK.keep J.row k)⟩
theorem J43.ext {K : PySem.W.Frag} {CL CR : Addr} {T : List (Addr × Str)} {H H' : Hp} {r sc x dx sl a : Addr} {ns : List Int} {secs : List Sec} {cars : List Car} {ss : List LS} {i : Nat} (J : J43 K CL CR T H r sc x dx sl a ns secs cars ss i) (e : ExtN H H') (t : Tabs T H') : J43 K CL CR T H' r sc x dx sl a ns secs cars ss i :=
  ⟨J.row.kg (Kg.of e), t, J.lv.ext e, J.last, J.len, J.se.nk (Kg.of e).nk, J.ca.nk (Kg.of e).nk⟩
theorem J43.same {K : PySem.W.Frag} {CL CR : Addr} {T : List (Addr × Str)} {H H' : Hp} {r sc x dx sl a : Addr} {ns : List Int} {secs : List Sec} {cars : List Car} {ss : List LS} {i : Nat} (J : J43 K CL CR T H r sc x dx sl a ns secs cars ss i) (e : Same H H') : J43 K CL CR T H' r sc x dx sl a ns secs cars ss i :=
  J.ext (ExtN.same e) (J.tab.ext e)
theorem tk_some {α : Type} {l : List α} {i j : Nat} {x : α} (h : (l.take i)[j]? = some x) : l[j]? = some x := by
  rw [List.getElem?_take] at h
  split at h
  · exact h
  · cases h
theorem RiseC.take {cars : List Car} (R : RiseC cars) (i : Nat) : RiseC (cars.take i) where
  nm := fun j c h => R.nm j c ((tk_some h))
  st := fun j c h => R.st j c ((tk_some h))
  pc := fun c h => R.pc c (List.mem_of_mem_take h)
  up := fun p q c d hpq h1 h2 => R.up p q c d hpq (tk_some h1) (tk_some h2)
  few := by have := R.few; rw [List.length_take]; omega
theorem arr_cap {cars : List Car} (RC : RiseC cars) {secs : List Sec} (SO : SecsOk secs) (h5 : secs.length ≤ 5) {n : Str} (hn : n ∈ names cars) {k : Nat} (hk : k ≤ secs.length) : 0 ≤ (plcC secs cars k).tk n ∧ (plcC secs cars k).tk n ≤ 30300 := by
  have CO := RC.ok
  constructor
  · have h := tk_mono CO SO hn (Nat.zero_le k) hk
    have e : (plcC secs cars 0).tk n = startOf cars n := rfl
    obtain ⟨c, hc, rfl⟩ := List.mem_map.mp hn
    rw [e, startOf_car CO.nd hc] at h
    have := (CO.all c hc).s0
    omega
  · have h := plc_cap (pace := paceOf cars) (P := pl0 cars) (B := 600) (secs := secs) ((pl0_perm cars).nodup_iff.mpr CO.nd) (fun x hx => by
      obtain ⟨c, hc, rfl⟩ := List.mem_map.mp ((pl0_perm cars).mem_iff.mp hx)
      refine ⟨?_, by rw [paceOf_car CO.nd hc]; exact (CO.all c hc).p1⟩
      show startOf cars c.name ≤ _
      rw [startOf_car CO.nd hc]
      obtain ⟨j, hj⟩ := List.mem_iff_getElem?.mp hc
      have hl := (List.getElem?_eq_some_iff.mp hj).1
      have few := RC.few
      have := (RC.st j c hj).2
      omega) (fun s hs => (SO.len s hs).2) k hk n ((plcC_perm secs cars k).mem_iff.mpr hn)
    have h1 : (plcC secs cars k).tk n ≤ 600 + 5940 * (k : Int) := h.1
    omega
/-- the drive beside it -/
structure D43 (K : PySem.W.Frag) (CL CR : Addr) (T : List (Addr × Str)) (H : Hp) (r sc x dx sl a t8 tk od : Addr) (ns : List Int) (secs : List Sec) (cars : List Car) (ss : List LS) : Prop where
  j : J43 K CL CR T H r sc x dx sl a ns secs cars ss cars.length
  dr : H t8 = some (.tup [.ref tk, .ref od])
  ts : TksAt H tk secs cars
  os : OrdsAt H od secs cars
section
variable {K : PySem.W.Frag} {CL CR : Addr} {T : List (Addr × Str)} {H H' : Hp} {r sc x dx sl a t8 tk od : Addr} {ns : List Int} {secs : List Sec} {cars : List Car} {ss : List LS}
theorem D43.keep (D : D43 K CL CR T H r sc x dx sl a t8 tk od ns secs cars ss) (k : KeepB r H H') (R : RowAt K H' r sc ns) : D43 K CL CR T H' r sc x dx sl a t8 tk od ns secs cars ss :=
  ⟨D.j.keep k R, NK.keep D.j.row k _ _ D.dr (.tup _), D.ts.nk (NK.keep D.j.row k), D.os.nk (NK.keep D.j.row k)⟩
theorem D43.ext (D : D43 K CL CR T H r sc x dx sl a t8 tk od ns secs cars ss) (e : ExtN H H') (t : Tabs T H') : D43 K CL CR T H' r sc x dx sl a t8 tk od ns secs cars ss :=
  ⟨D.j.ext e t, ExtN.tup e D.dr, D.ts.nk (Kg.of e).nk, D.os.nk (Kg.of e).nk⟩
theorem D43.same (D : D43 K CL CR T H r sc x dx sl a t8 tk od ns secs cars ss) (e : Same H H') : D43 K CL CR T H' r sc x dx sl a t8 tk od ns secs cars ss := D.ext (ExtN.same e) (D.j.tab.ext e)
end
theorem take_all {α : Type} (l : List α) : l.take l.length = l := List.take_length
section
variable {P : Program} {w : World} {K : PySem.W.Frag} {mg : Str → Option Value} {base : Heap}
def spLaw (K : PySem.W.Frag) (T : List (Addr × Str)) : Sp := fun vs H Q _ => ∃ (sc : Addr) (ns : List Int), vs = [.ref sc] ∧ SqL K H sc (ns.map V.int) ∧ Tabs T H ∧ ∀ H', Q (.bl true) H'
theorem ok_law {f c Pt CR CL CNm CMy CU CE c0 c1 c2 c3 c4 c5 c6 c7 c8 c9 c10 c11 c12 c13 : Addr} {fd : FuncData} {T : List (Addr × Str)} (F : FunC K "law" "law" sLaw f fd c) (TB : TabB base mg c Pt) (hm : (Pt, qLaw) ∈ T) (hut : ∀ p ∈ T, p.1 = Pt → p.2 = qLaw) (X9 : Env43 P w K mg base CR CL CNm CMy CU CE c0 c1 c2 c3 c4 c5 c6 c7 c8 c9 c10 c11 c12 c13 T) : FnOk P w K mg base CX0 15 f fd ["_law_script"] (spLaw K T) := by
  refine F.ok scLaw (fun vs H Q E h => ?_) (fun A outer s Hs vs Q E hr h => ?_)
  · obtain ⟨sc, ns, rfl, _⟩ := h
    rfl
  · obtain ⟨sc, ns, rfl, hsc, hT, k⟩ := h
    have nd := scLaw.nd
    have hu := hu_of hr
    have hu64 := hr.units
    have M := X9.M
    have LT := X9.LT
    have RT := X9.RT
    have mmx := X9.mmx
    obtain ⟨_, _, BTk, GTk⟩ := X9.taken
    obtain ⟨_, _, BSe, GSe⟩ := X9.secs
    obtain ⟨_, _, BJo, GJo⟩ := X9.joined
    obtain ⟨_, _, BCa, GCa⟩ := X9.cars
    obtain ⟨_, _, BRo, GRo⟩ := X9.road
    obtain ⟨_, _, MKL, mgL, bLI, GLI⟩ := X9.make
    obtain ⟨_, _, BJn, GJn⟩ := X9.join
    obtain ⟨_, _, BDr, GDr⟩ := X9.drive
    obtain ⟨_, _, BLp, GLp⟩ := X9.lawpos
    obtain ⟨_, _, BAl, GAl⟩ := X9.alike
    obtain ⟨_, _, BPo, GPo⟩ := X9.pos
    obtain ⟨_, _, WT⟩ := X9.raised
    have room : ∀ n, n ≤ 14 → Room n (A.deeper (PyProof.Rows.envOfC "law" (defScope sLaw) s.heap.objs.size f (.ref c))) := fun n h => hr.mono h
    have hr1 := room 1 (by decide)
    have hr2 := room 2 (by decide)
    have hr6 := room 6 (by decide)
    have hr8 := room 8 (by decide)
    have hr10 : Room (8 + 2) (A.deeper (PyProof.Rows.envOfC "law" (defScope sLaw) s.heap.objs.size f (.ref c))) := room 10 (by decide)
    have hr11 := room 11 (by decide)
    refine ⟨_, (pss_cons (ps_set (i := 1) nd rfl (.inl rfl) (pe_lst (pa_cons (pv 0) (pa_cons pe_int (pa_cons pe_int (pa_cons pe_int pa_nil)))))) (pss_cons (ps_asg (pe_tup (pa_cons (pe_call GJo hr1 (by rfl) BJo.at_ BJo.fn.kp BJo.bd .nil pass0 (pa_cons (pe_call GSe hr2 (by rfl) BSe.at_ BSe.fn.kp BSe.bd .nil pass0 (pa_cons (pv 1) (pa_cons pe_int pa_nil))) pa_nil)) (pa_cons (pe_call GCa hr2 (by rfl) BCa.at_ BCa.fn.kp BCa.bd .nil pass0 (pa_cons (pv 1) (pa_cons pe_int pa_nil))) pa_nil))) (pg_tup rfl (pgs_cons (pg_name (i := 2) nd rfl (.inl rfl)) (pgs_cons (pg_name (i := 3) nd rfl (.inr rfl)) pgs_nil)))) (pss_cons (ps_set (i := 4) nd rfl (.inr rfl) (pe_make MKL GLI hr2 (by rfl) mgL bLI .nil pass0 (pa_cons (pe_call GRo hr6 (by rfl) BRo.at_ BRo.fn.kp BRo.bd .nil pass0 (pa_cons (pv 2) pa_nil)) pa_nil))) (pss_cons (ps_for PassesOwn.never rfl (pi_tup (pv 3)) (pg_tup rfl (pgs_cons (pg_name (i := 5) nd rfl (.inl rfl)) (pgs_cons (pg_name (i := 6) nd rfl (.inl rfl)) (pgs_cons (pg_name (i := 7) nd rfl (.inl rfl)) pgs_nil)))) (pss_one (ps_expr (pe_meth (pv 4) LT.cl BJn.at_ GJn hr11 BJn.bd .nil passE0 (pa_cons (pv 5) (pa_cons (pv 6) (pa_cons (pv 7) pa_nil))))))) (pss_cons (ps_set (i := 8) nd rfl (.inl rfl) (pe_call GDr hr2 (by rfl) BDr.at_ BDr.fn.kp BDr.bd .nil pass0 (pa_cons (pv 2) (pa_cons (pv 3) pa_nil)))) (pss_cons (ps_set (i := 9) nd rfl (.inl rfl) (pe_callB (cr_max rfl) (by rfl) mmx boot_max (pa_cons (pe_op op_cat (pe_lst (pa_cons pe_int pa_nil)) (pe_lock (pe_lc (own := [("_law_ticks", 14)]) (g := gName 14) (tt := tYes) (te := tOp (rIxL K) (tVar 14) (tUn (rU fun i => .int (-i)) (tC (.int 1)))) (by rfl) nd (pi_values (pe_ix (r := rIxT K) ix_tup (pv 8) pe_int (fun _ _ => rfl))) (blkOk_by (N := nLaw) (sc := defScope sLaw) (by decide +kernel)) (fun _ _ _ _ _ => pg_name (i := 14) nd rfl (Or.inl rfl)) (fun _ _ _ _ _ => pts_nil) (fun _ _ _ _ _ => (pe_ix (r := rIxL K) ix_list (pv 14) (pe_un un_neg pe_int) (fun _ _ => rfl)))))) pa_nil))) (pss_cons (ps_for PassesOwn.never rfl (pi_range1 (by rfl) M.range (pa_cons (pe_op op_mul pe_int (pe_callTy call_int1 (by rfl) M.int boot_tInt (pa_cons (pe_cmpR (op_neD hu64) (pv 3) (pe_tup pa_nil) (nomark _)) pa_nil))) pa_nil)) (pg_name (i := 10) nd rfl (.inl rfl)) (pss_cons (ps_set (i := 5) nd rfl (.inl rfl) (pe_ix (r := rIxT K) ix_tup (pe_ix (r := rIxT K) ix_tup (pv 3) (pe_call GTk hr1 (by rfl) BTk.at_ BTk.fn.kp BTk.bd .nil pass0 (pa_cons (pv 1) (pa_cons (pe_callB call_len_seq (by rfl) M.len boot_len (pa_cons (pv 3) pa_nil)) pa_nil))) (fun _ _ => rfl)) pe_int (fun _ _ => rfl))) (pss_cons (ps_set (i := 11) nd rfl (.inl rfl) (pe_op op_sub (pe_op op_add (pe_ix (r := rIxL K) ix_list (pe_dget hu (pe_ix (r := rIxT K) ix_tup (pv 8) pe_int (fun _ _ => rfl)) (pv 5) (fun _ _ => rfl)) (pe_call GTk hr1 (by rfl) BTk.at_ BTk.fn.kp BTk.bd .nil pass0 (pa_cons (pv 1) (pa_cons (pe_op op_add (pe_callB call_len_seq (by rfl) M.len boot_len (pa_cons (pv 2) pa_nil)) pe_int) pa_nil))) (fun _ _ => rfl)) (pe_call GTk hr1 (by rfl) BTk.at_ BTk.fn.kp BTk.bd .nil pass0 (pa_cons (pv 1) (pa_cons pe_int pa_nil)))) pe_int)) (pss_cons (ps_set (i := 12) nd rfl (.inl rfl) (pe_callB (call_max2 rfl) (by rfl) mmx boot_max (pa_cons pe_int (pa_cons (pe_ix (r := rIxL K) ix_list (pe_lst (pa_cons (pv 11) (pa_cons (pe_call GTk hr1 (by rfl) BTk.at_ BTk.fn.kp BTk.bd .nil pass0 (pa_cons (pv 1) (pa_cons (pe_op op_add (pv 9) pe_int) pa_nil))) pa_nil))) (pe_call GTk hr1 (by rfl) BTk.at_ BTk.fn.kp BTk.bd .nil pass0 (pa_cons (pv 1) (pa_cons pe_int pa_nil))) (fun _ _ => rfl)) pa_nil)))) (pss_one (ps_if (pt_not (pt_val (pe_call GAl hr2 (by rfl) BAl.at_ BAl.fn.kp BAl.bd .nil pass0 (pa_cons (pe_meth (pv 4) LT.cl BPo.at_ GPo hr8 BPo.bd .nil passE0 (pa_cons (pv 5) (pa_cons (pv 12) pa_nil))) (pa_cons (pe_call GLp hr2 (by rfl) BLp.at_ BLp.fn.kp BLp.bd .nil pass0 (pa_cons (pv 2) (pa_cons (pv 3) (pa_cons (pv 8) (pa_cons (pv 5) (pa_cons (pv 12) pa_nil)))))) pa_nil))))) (pss_one (ps_ret pe_bl)) pss_nil)))))) (pss_cons (ps_for PassesOwn.never rfl (pi_tup (pe_tup (pa_cons (pe_op op_sub pe_int pe_int) (pa_cons (pe_op op_add (pe_op op_pow pe_int pe_int) pe_int) (pa_cons pe_non (pa_cons pe_bl pa_nil)))))) (pg_name (i := 13) nd rfl (.inr rfl)) (pss_one (ps_if (PW.pt (pw_and (pt_cmpR (op_neD hu64) (pv 3) (pe_tup pa_nil) (nomark _)) (pw_and1 (pt_cmpR (op_neD hu64) (pe_toldL (Tb := T) (t := fun E => tMeth CL "position" (spLPos CL CR CU c9 T) [] E (tVar 4) (tCons (tOp (rIxT K) (tOp (rIxT K) (tVar 3) (tC (.int 0))) (tC (.int 0))) (tCons (tVar 13) tNil))) WT (by rfl) (raised_gives M RT) hr10 (pe_lamV TB rfl hm hut (lamS2_by (N := nLaw) (sc := defScope sLaw) (by decide +kernel))) (lamS2_by (N := nLaw) (sc := defScope sLaw) (by decide +kernel)) (fun _ _ _ _ _ _ => rfl) (fun A' outer' s' H' E' f' c' hr' => pe_meth (pv 4) LT.cl BPo.at_ GPo hr' BPo.bd .nil (passes_call (takes_of rfl rfl rfl rfl) fun _ _ _ _ h => h) (pa_cons (pe_ix (r := rIxT K) ix_tup (pe_ix (r := rIxT K) ix_tup (pv 3) pe_int (fun _ _ => rfl)) pe_int (fun _ _ => rfl)) (pa_cons (pv 13) pa_nil)))) (pe_tup (pa_cons pe_str pa_nil)) (nomark _))))) (pss_one (ps_ret pe_bl)) pss_nil))) (pss_one (ps_ret (pe_cmpR (op_eqD hu64) (pe_lc (own := [("_law_bad", 13)]) (g := gName 13) (tt := tTest (tOp (rNeD _) (tToldL T (TRai K CE c0 c1 c2 c3 c4 c5 c6 c7 c8 c9 c10 c11 c12 c13) (fun E => tMeth CL "position" (spLPos CL CR CU c9 T) [] E (tVar 4) (tCons (tVar 13) (tCons (tOp (rI0 fun i j => .int (i - j)) (tC (.int 0)) (tC (.int 1))) tNil)))) (tTup (tCons (tC (.str "nocar")) (tCons (tVar 13) tNil))))) (te := tVar 13) (by rfl) nd (pi_tup (pe_tup (pa_cons pe_str (pa_cons pe_non (pa_cons pe_int pa_nil))))) (blkOk_by (N := nLaw) (sc := defScope sLaw) (by decide +kernel)) (fun _ _ _ _ _ => pg_name (i := 13) nd rfl (Or.inr rfl)) (fun _ _ _ _ _ => pts_one (pt_cmpR (op_neD hu64) (pe_toldL (Tb := T) (t := fun E => tMeth CL "position" (spLPos CL CR CU c9 T) [] E (tVar 4) (tCons (tVar 13) (tCons (tOp (rI0 fun i j => .int (i - j)) (tC (.int 0)) (tC (.int 1))) tNil))) WT (by rfl) (raised_gives M RT) hr10 (pe_lamV TB rfl hm hut (lamS2_by (N := nLaw) (sc := scBad) (by decide +kernel))) (lamS2_by (N := nLaw) (sc := scBad) (by decide +kernel)) (fun _ _ _ _ _ _ => rfl) (fun A' outer' s' H' E' f' c' hr' => pe_meth (pv 4) LT.cl BPo.at_ GPo hr' BPo.bd .nil (passes_call (takes_of rfl rfl rfl rfl) fun _ _ _ _ h => h) (pa_cons (pv 13) (pa_cons (pe_op op_sub pe_int pe_int) pa_nil)))) (pe_tup (pa_cons pe_str (pa_cons (pv 13) pa_nil))) (nomark _))) (fun _ _ _ _ _ => pv 13)) (pe_lst pa_nil) (nomark _)))))))))))), ?_⟩
    -- the row
    refine ⟨_, rfl, by show 4 ≤ sizeLine; decide, fun r hr0 => ?_⟩
    have s0 := sameNew hr0 (.lst [V.ref sc, V.int 0, V.int 0, V.int 0])
    have R0 : RowAt K (upd Hs r (.lst [V.ref sc, V.int 0, V.int 0, V.int 0])) r sc ns := by
      refine ⟨⟨0, 0, 0, upd_same⟩, fun H' k' => ?_⟩
      rcases hsc with (h | ⟨o, h⟩) | h
      · exact .inl (.inl (k' _ _ (s0 _ _ h) (ne_of_none h hr0)))
      · exact .inl (.inr ⟨o, k' _ _ (s0 _ _ h) (ne_of_none h hr0)⟩)
      · exact .inr h
    have T0 := hT.ext s0
    generalize upd Hs r (.lst [V.ref sc, V.int 0, V.int 0, V.int 0]) = H0 at s0 R0 T0 ⊢
    clear s0 hsc hr0 hT
    -- sections, cars
    refine ⟨_, rfl, r, sc, ns, 5, rfl, by decide, by decide, R0, fun H1 s0a secs0 k1 R1 SE1 l1 l5 b40 => ?_⟩
    have T1 := Tabs.row T0 R0 k1
    refine ⟨s0a, secs0, rfl, SE1, by omega, fun H2 sl s2 SE2 => ?_⟩
    have ne0 : secs0 ≠ [] := fun z => by subst z; exact absurd l1 (by decide)
    have jo := joinL_ok (secs := secs0) (fun s hs => ⟨(b40 s hs).1, by have := (b40 s hs).2; omega⟩) ne0
    obtain ⟨alt, jl, jb⟩ := jo.1
    have jne := jo.2
    have jl5 : (joinL secs0).length ≤ 5 := Nat.le_trans jl l5
    clear jo SE1 b40 ne0 jl l1 l5 k1
    generalize joinL secs0 = secs at *
    have SO : SecsOk secs := ⟨jne, by omega, jb⟩
    have R2 := R1.same s2
    have T2 := T1.ext s2
    refine ⟨_, rfl, r, sc, ns, 8, rfl, by decide, R2, fun H3 a cars k3 R3 CA3 RC few8 => ?_⟩
    have T3 := Tabs.row T2 R2 k3
    have SE3 := SE2.nk (NK.keep R2 k3)
    clear T1 T2 R1 R2 SE2 k3 s2 R0 T0
    refine ⟨by show 2 ≤ sizeLine; decide, fun t4 ht4 => ?_⟩
    have s4 := sameNew ht4 (.tup [V.ref sl, V.ref a])
    have R4 := R3.same s4
    have T4 := T3.ext s4
    have SE4 := SE3.nk (Kg.same s4).nk
    have CA4 := CA3.same s4
    refine ⟨t4, _, rfl, SqT.of upd_same, rfl, _, _, rfl, _, _, rfl, rfl, ?_⟩
    generalize upd H3 t4 (.tup [V.ref sl, V.ref a]) = H4 at R4 T4 SE4 CA4 ⊢
    clear s4 R3 T3 SE3 CA3 ht4
    have CO := RC.ok
    -- the live road
    refine ⟨_, rfl, sl, secs, rfl, SE4, alt, SO, by omega, fun H5 p s5 hp rd5 => ?_⟩
    have R5 := R4.same s5
    have T5 := T4.ext s5
    have SE5 := SE4.nk (Kg.same s5).nk
    have CA5 := CA4.same s5
    clear R4 T4 SE4 CA4 s5 hp
    refine fun x dx hx hdx ne => ?_
    have S6 : Same H5 (upd (upd H5 dx (.own x)) x (.ins CL dx [])) := fun b o e => by rw [upd_ne (ne_of_none e hx), upd_ne (ne_of_none e hdx)]; exact e
    refine ⟨H5, x, dx, p, secs, rfl, upd_same, S6, hx, rd5, SO, fun H6 s6 lv6 => ⟨rfl, gname_to ?_⟩⟩
    have R6 := R5.same s6
    have T6 := T5.ext s6
    have SE6 := SE5.nk (Kg.same s6).nk
    have CA6 := CA5.same s6
    clear S6 hx hdx ne s6 R5 T5 SE5 CA5 rd5 p
    have J6 : J43 K CL CR T H6 r sc x dx sl a ns secs cars [((secs, []), none)] 0 := ⟨R6, T6, lv6, ⟨none, rfl⟩, rfl, SE6, CA6⟩
    clear R6 T6 SE6 CA6 lv6
    -- the cars join
    obtain ⟨us, ca1, ca2, ca3⟩ := id J6.ca
    have hl : (us.map V.ref).length = cars.length := by rw [List.length_map, ca2]
    refine ⟨_, rfl, a, rfl, ⟨_, SqT.of ca1⟩, for_it walk_tup (fun i σ H => ∃ (ss : List LS) (w5 w6 w7 : Option V), σ = [some (.ref sc), some (.ref r), some (.ref sl), some (.ref a), some (.ref x), w5, w6, w7, none, none, none, none, none, none, none] ∧ J43 K CL CR T H r sc x dx sl a ns secs cars ss i ∧ H a = some (.tup (us.map V.ref)) ∧ ∀ (i : Nat) (t : Addr) (c : Car), us[i]? = some t → cars[i]? = some c → H t = some (.tup c.vs))
      ⟨_, none, none, none, rfl, J6, ca1, ca3⟩ (fun _ _ _ _ ⟨_, _, _, _, _, _, k1, _⟩ => SqT.of k1) ?_ ?_⟩
    · rintro i y σ H Hz hi ⟨ss, w5, w6, w7, rfl, J, c1, c3⟩ ⟨e, hy⟩
      subst e
      rw [hl] at hi
      obtain ⟨t, hu0, rfl⟩ : ∃ t, us[i]? = some t ∧ y = V.ref t := by
        rw [List.getElem?_map] at hy
        obtain ⟨t, z1, z2⟩ := Option.map_eq_some_iff.mp hy
        exact ⟨t, z1, z2.symm⟩
      obtain ⟨c, hc⟩ : ∃ c, cars[i]? = some c := ⟨_, List.getElem?_eq_getElem hi⟩
      have htv := c3 i t c hu0 hc
      refine ⟨t, _, rfl, SqT.of htv, rfl, _, _, rfl, _, _, rfl, _, _, rfl, rfl, ?_⟩
      have cm := List.mem_of_getElem? hc
      have cok := CO.all c cm
      obtain ⟨n, stI, pcI⟩ := c
      have k0 := cok.s0
      have k1 := cok.p0
      have k2 := cok.s1
      have k3 := cok.p1
      obtain ⟨st, hst⟩ : ∃ st : Nat, stI = (st : Int) := ⟨stI.toNat, by have : (0 : Int) ≤ stI := k0; omega⟩
      obtain ⟨pc, hpc⟩ : ∃ pc : Nat, pcI = (pc : Int) := ⟨pcI.toNat, by have : (1 : Int) ≤ pcI := k1; omega⟩
      subst hst
      subst hpc
      have k1 : (1 : Int) ≤ (pc : Int) := k1
      have k2 : (st : Int) ≤ 1000000 := k2
      have k3 : (pc : Int) ≤ 60 := k3
      obtain ⟨q, hq⟩ := J.last
      obtain ⟨fs, hx, hno⟩ := J.lv.ins
      have hlt : (cars.take i).length = i := by rw [List.length_take]; omega
      have nin : n ∉ names (cars.take i) := fun z => by
        obtain ⟨d, hd, e⟩ := List.mem_map.mp z
        obtain ⟨j, hj⟩ := List.mem_iff_getElem?.mp hd
        have hj1 := (List.getElem?_eq_some_iff.mp hj).1
        have e1 := RC.nm i _ hc
        have e2 := RC.nm j _ (tk_some hj)
        have e3 : d.name = n := e
        rw [e3] at e2
        have e4 : tenL[i]? = some n := e1
        have := (List.getElem?_inj (by have := RC.few; show i < 10; omega) ten_nd).mp (e4.trans e2.symm)
        omega
      have so := stepO (secs, cars.take i) (.join n st pc)
      have e10 : stepO (secs, cars.take i) (.join n st pc) = .inr ((secs, cars.take (i + 1)), .tick (arrL (secs, cars.take (i + 1)) n)) := by
        have et : cars.take (i + 1) = cars.take i ++ [newC n st pc] := tk1 hc
        rw [et]
        show (if n ∈ names (cars.take i) then _ else if (cars.take i).length = 10 then _ else _) = _
        rw [if_neg nin, if_neg (by omega)]
      refine ⟨_, rfl, x, dx, fs, rfl, hx, hno _ (by decide +kernel) (by decide +kernel) (by decide +kernel) (by decide +kernel) (by decide +kernel), _, rfl, _, rfl, _, rfl, x, dx, ss, [], (secs, cars.take i), n, st, pc, rfl,
        ⟨J.lv, ⟨q, hq⟩, ⟨SO, (RC.take i).ok⟩, J.tab, by rw [J.len]; omega⟩, ⟨cok.nm, fun d hd => ?_, by omega, by omega, by omega⟩, fun e he => (by rw [e10] at he; cases he), fun S' rr he H1 v1 kp1 T1 lv1 un1 _ => ?_⟩
      · obtain ⟨j, hj⟩ := List.mem_iff_getElem?.mp (List.mem_of_getLast? hd)
        have hj1 := (List.getElem?_eq_some_iff.mp hj).1
        have hj2 : j < (cars.take i).length := hj1
        exact RC.up j i _ _ (by omega) (tk_some hj) hc
      · rw [e10] at he
        obtain ⟨rfl, rfl⟩ : _ = S' ∧ _ = rr := Prod.mk.inj (Sum.inr.inj he)
        have kg := Kg.kp hx kp1
        exact ⟨_, _, _, _, rfl, ⟨J.row.kg kg, T1, lv1, ⟨_, List.getLast?_concat⟩, by rw [List.length_append, J.len]; rfl, J.se.nk kg.nk, J.ca.nk kg.nk⟩, kg.nk _ _ c1 (.tup _), fun i t c e1 e2 => kg.nk _ _ (c3 i t c e1 e2) (.tup _)⟩
    rintro σ H ⟨ss, w5, w6, w7, rfl, J, z1, z2⟩
    rw [hl] at J
    clear z1 z2 J6 ca1 ca2 ca3 hl us
    -- the drive
    refine ⟨_, rfl, _, rfl, sl, a, secs, cars, rfl, J.se, J.ca, by omega, CO, fun H8 t8 tk od s8 dr8 TK8 OD8 => gname_to ?_⟩
    have D8 : D43 K CL CR T H8 r sc x dx sl a t8 tk od ns secs cars ss := ⟨J.same s8, dr8, TK8, OD8⟩
    clear J s8 dr8 TK8 OD8
    -- the latest arrival
    refine ⟨by show 1 ≤ sizeLine; decide, fun z hz => ?_⟩
    have s9 := sameNew hz (.lst [V.int 0])
    have D9 := D8.same s9
    have z9 : upd H8 z (.lst [V.int 0]) z = some (.lst [V.int 0]) := upd_same
    generalize upd H8 z (.lst [V.int 0]) = H9 at s9 D9 z9 ⊢
    clear hz s9 D8
    obtain ⟨kt, kt1, kt2, kt3⟩ := id D9.ts
    refine ⟨tk, _, kt1, True.intro, fun od' => ?_⟩
    have np : ∀ y o, H9 y = some o → y ≠ tk → upd H9 tk (.frz od' (.dK kt)) y = some o := fun y o e n => by rw [upd_ne n]; exact e
    have hz : upd H9 tk (.frz od' (.dK kt)) tk = some (.frz od' (.dK kt)) := upd_same
    generalize upd H9 tk (.frz od' (.dK kt)) = H10 at np hz ⊢
    have n8 : t8 ≠ tk := ne_of D9.dr kt1 (fun z => nomatch z)
    refine ⟨_, rfl, t8, _, _, _, rfl, rfl, SqT.of (np _ _ D9.dr n8), rfl, tk, od', kt, rfl, hz, fun D hD => ?_⟩
    have nD : tk ≠ D := ne_of_none hz hD
    have eln : kt.length = cars.length := by
      have := congrArg List.length kt2
      rw [List.length_map, List.length_map] at this
      exact this
    have ktn : (kt.map (·.1)).Nodup := by rw [kt2]; exact names_keys CO.nd
    have up2 : ∀ (o : HO) y u, H9 y = some u → y ≠ tk → upd H10 D o y = some u := fun o y u e n => by rw [upd_ne (ne_of_none (np _ _ e n) hD)]; exact np _ _ e n
    refine lc_it walk_values (fun i H3 => (∀ y o, H9 y = some o → y ≠ tk → H3 y = some o) ∧ H3 tk = some (.frz od' (.dK kt)) ∧ H3 D = some (.lst (((cars.take i).map fun c => arrL (secs, cars) c.name).map V.int)))
      ⟨up2 _, by rw [upd_ne nD]; exact hz, upd_same⟩ (fun i H3 _ ⟨_, q, _⟩ => q) ?_ ?_
    · rintro i y H3 H4 hi ⟨k3, z3, d3⟩ ⟨e, k, hk⟩
      subst e
      rw [eln] at hi
      obtain ⟨c, hc⟩ : ∃ c, cars[i]? = some c := ⟨_, List.getElem?_eq_getElem hi⟩
      have cm := List.mem_of_getElem? hc
      have ek : k = (Sum.inr c.name : Key) := by
        have e1 : (kt.map (·.1))[i]? = some k := by rw [List.getElem?_map, hk]; rfl
        rw [kt2, List.getElem?_map, hc] at e1
        exact (Option.some.inj e1).symm
      subst ek
      obtain ⟨d, hd1, hd2⟩ := kt3 c cm
      have hv := val_nodup ktn _ (List.mem_of_getElem? hk)
      have ey : y = V.ref d := Option.some.inj (hv.symm.trans hd1)
      subst ey
      have nd2 : d ≠ tk := ne_of hd2 kt1 (fun z => nomatch z)
      obtain ⟨pre, hpre⟩ := tkl_last secs cars secs.length c.name
      refine ⟨rfl, yes_of ?_⟩
      have hd3 := k3 _ _ hd2 nd2
      rw [hpre, List.map_append] at hd3
      refine ⟨_, rfl, _, rfl, d, _, _, _, rfl, rfl, SqL.of hd3, atI_last _ _, ?_⟩
      refine ⟨_, d3, ?_, fun y o e n => ?_, ?_, ?_⟩
      · rw [List.length_map, List.length_map, List.length_take]
        exact small1000 (by omega)
      · rw [upd_ne fun q => ?_]
        · exact k3 _ _ e n
        · rw [q] at e
          rw [np _ _ e (fun w => nD w.symm)] at hD
          cases hD
      · rw [upd_ne nD]
        exact z3
      · rw [upd_same, tk1 hc, List.map_append, List.map_append]
        rfl
    rintro H3 ⟨k3, z3, d3⟩
    rw [eln, take_all] at d3
    refine ⟨z3, ?_⟩
    have S4 : Same H9 (upd H3 tk (.dK kt)) := fun y o e => by
      by_cases h : y = tk
      · rw [h] at e ⊢
        rw [upd_same, ← e, kt1]
      · rw [upd_ne h]
        exact k3 _ _ e h
    have d4 : upd H3 tk (.dK kt) D = some (.lst ((cars.map fun c => arrL (secs, cars) c.name).map V.int)) := by rw [upd_ne nD.symm]; exact d3
    have D4 := D9.same S4
    have z4 := S4 _ _ z9
    generalize upd H3 tk (.dK kt) = H11 at d4 D4 z4 ⊢
    clear S4 k3 z3 d3 D9 z9 np hz hD nD up2 kt1 kt2 kt3 ktn eln n8 kt
    have hsz : ([V.int 0] : List V).length + ((cars.map fun c => arrL (secs, cars) c.name).map V.int).length ≤ sizeLine := by
      rw [List.length_map, List.length_map]
      exact Nat.le_of_lt (small1000 (by show 1 + cars.length ≤ 1000; omega))
    refine ⟨z, D, _, _, rfl, rfl, z4, d4, hsz, fun z2 hz2 => ?_⟩
    have s12 := sameNew hz2 (.lst ([V.int 0] ++ (cars.map fun c => arrL (secs, cars) c.name).map V.int))
    refine ⟨z2, 0 :: cars.map fun c => arrL (secs, cars) c.name, rfl, SqL.of upd_same, Nat.succ_pos _, fun m hm hmx => gname_to ?_⟩
    have D12 := D4.same s12
    generalize upd H11 z2 (.lst ([V.int 0] ++ (cars.map fun c => arrL (secs, cars) c.name).map V.int)) = H12 at D12 ⊢
    have m0 : 0 ≤ m := hmx 0 List.mem_cons_self
    have m1 : m ≤ 30300 := by
      rcases List.mem_cons.mp hm with rfl | h
      · decide
      · obtain ⟨c, hc, rfl⟩ := List.mem_map.mp h
        exact (arr_cap RC SO jl5 (List.mem_map_of_mem hc) (Nat.le_refl _)).2
    obtain ⟨mN, rfl⟩ : ∃ q : Nat, m = ((q : Nat) : Int) := ⟨m.toNat, by omega⟩
    clear hm hmx s12 hz2 D4 d4 z4
    -- the turns
    refine ⟨_, rfl, by show 0 ≤ sizeLine; decide, fun e he => ?_⟩
    have s13 := sameNew he (.tup [])
    have D13 := D12.same s13
    have shc : Shp 2 (carsD cars) := shp_cars fun c hc => namesOk CO _ (List.mem_map_of_mem hc)
    refine ⟨carsD cars, .tuple [], dp_cars D13.j.ca, .tup (SqT.of upd_same) .nil, shc.ok (by decide), rfl, ?_⟩
    generalize upd H12 e (.tup []) = H13 at D13 ⊢
    clear D12 s13 he
    obtain ⟨tn, htn, htz⟩ : ∃ tn : Nat, 12 * (if (!PyData.eqv (carsD cars) (.tuple [])) = true then (1 : Int) else 0) = ((tn : Nat) : Int) ∧ (tn ≤ 12 ∧ (cars = [] → tn = 0)) := by
      rw [cars_nil]
      by_cases h : cars = []
      · rw [decide_eq_true h]
        exact ⟨0, rfl, by decide, fun _ => rfl⟩
      · rw [decide_eq_false h]
        exact ⟨12, rfl, by decide, fun z => absurd z h⟩
    refine .inr ⟨_, rfl, _, _, rfl, rfl, .inl ⟨by decide, by decide⟩, _, rfl, ?_, ?_, ?_⟩
    · rw [htn]
      omega
    · rw [htn]
      omega
    rw [htn, Int.toNat_natCast]
    refine for_it walk_range (fun i σ H => ∃ (w5 w6 w7 w10 w11 w12 : Option V), σ = [some (.ref sc), some (.ref r), some (.ref sl), some (.ref a), some (.ref x), w5, w6, w7, some (.ref t8), some (.int ((mN : Nat) : Int)), w10, w11, w12, none, none] ∧ D43 K CL CR T H r sc x dx sl a t8 tk od ns secs cars ss)
      ⟨_, _, _, _, _, _, rfl, D13⟩ (fun _ _ _ _ _ => True.intro) ?_ ?_
    · clear D13
      rintro i y σ H0 H hi ⟨w5, w6, w7, w10, w11, w12, rfl, D0⟩ ⟨e, hy⟩
      subst e
      refine gname_to ?_
      have cne : cars ≠ [] := fun z => by have := htz.2 z; omega
      have cpos : 0 < cars.length := List.length_pos_iff.mpr cne
      obtain ⟨us, ca1, ca2, ca3⟩ := id D0.j.ca
      have hl : (us.map V.ref).length = cars.length := by rw [List.length_map, ca2]
      refine ⟨_, rfl, _, rfl, _, rfl, a, _, rfl, .inr (SqT.of ca1), r, sc, ns, (us.map V.ref).length, rfl, by omega, by omega, D0.j.row, fun H1 q1 k1 R1 hq1 => ?_⟩
      rw [hl] at hq1
      have D1 := D0.keep k1 R1
      clear ca1 ca2 ca3 hl us
      obtain ⟨us, ca1, ca2, ca3⟩ := id D1.j.ca
      obtain ⟨c, hc⟩ : ∃ c, cars[q1]? = some c := ⟨_, List.getElem?_eq_getElem hq1⟩
      obtain ⟨t, hu0⟩ : ∃ t, us[q1]? = some t := ⟨_, List.getElem?_eq_getElem (by omega)⟩
      have htv := ca3 _ _ _ hu0 hc
      refine ⟨a, _, _, _, rfl, rfl, SqT.of ca1, atI_nat (map_at V.ref hu0), t, _, _, _, rfl, rfl, SqT.of htv, rfl, gname_to ?_⟩
      have cm := List.mem_of_getElem? hc
      have hn : c.name ∈ names cars := List.mem_map_of_mem cm
      clear ca1 ca2 ca3 us hu0 htv t
      -- near
      obtain ⟨kt, kt1, kt2, kt3⟩ := id D1.ts
      obtain ⟨d, hd1, hd2⟩ := kt3 c cm
      obtain ⟨ut, se1, se2, se3⟩ := id D1.j.se
      have hl2 : (ut.map V.ref).length = secs.length := by rw [List.length_map, se2]
      refine ⟨_, rfl, t8, _, _, _, rfl, rfl, SqT.of D1.dr, rfl, _, rfl, tk, .ref d, rfl, gSt kt1 hd1, _, rfl, _, rfl, sl, _, rfl, .inr (SqT.of se1), _, _, rfl, rfl, r, sc, ns, (ut.map V.ref).length + 1, rfl, by omega, by omega, D1.j.row, fun H2 q2 k2 R2 hq2 => ?_⟩
      rw [hl2] at hq2
      have hd2 := NK.keep D1.j.row k2 _ _ hd2 (.nums _)
      have D2 := D1.keep k2 R2
      have ge2 := tkl_at (secs := secs) (cars := cars) (n := c.name) (m := secs.length) (i := q2) (by omega)
      refine ⟨d, _, _, _, rfl, rfl, SqL.of hd2, atI_nat (map_at V.int ge2), _, rfl, r, sc, ns, 5, rfl, by decide, by decide, R2, fun H3 q3 k3 R3 hq3 => ⟨_, _, rfl, rfl, _, _, rfl, rfl, gname_to ?_⟩⟩
      have D3 := D2.keep k3 R3
      have cap := arr_cap RC SO jl5 hn (k := q2) (by omega)
      generalize (plcC secs cars q2).tk c.name = nr at cap ⊢
      clear kt1 kt2 kt3 se1 se2 se3 hl2 ge2 D2
      -- tick
      refine ⟨_, rfl, _, rfl, _, rfl, _, _, rfl, rfl, r, sc, ns, mN + 3, rfl, by omega, by omega, R3, fun H4 q4 k4 R4 hq4 => ?_⟩
      have D4 := D3.keep k4 R4
      refine ⟨by show 2 ≤ sizeLine; decide, fun l hl5 => ?_⟩
      have s5 := sameNew hl5 (.lst [V.int (nr + ((q3 : Nat) : Int) - 2), V.int ((q4 : Nat) : Int)])
      have D5 := D4.same s5
      have nlr := D4.j.row.old hl5
      have l5 : upd H4 l (.lst [V.int (nr + ((q3 : Nat) : Int) - 2), V.int ((q4 : Nat) : Int)]) l = some (.lst [V.int (nr + ((q3 : Nat) : Int) - 2), V.int ((q4 : Nat) : Int)]) := upd_same
      generalize upd H4 l (.lst [V.int (nr + ((q3 : Nat) : Int) - 2), V.int ((q4 : Nat) : Int)]) = H5 at D5 l5 ⊢
      refine ⟨_, rfl, r, sc, ns, 2, rfl, by decide, by decide, D5.j.row, fun H6 q6 k6 R6 hq6 => ?_⟩
      have l6 := k6 _ _ l5 nlr
      have D6 := D5.keep k6 R6
      obtain ⟨zt, zat, zb1, zb2⟩ : ∃ zt : Int, atI [V.int (nr + ((q3 : Nat) : Int) - 2), V.int ((q4 : Nat) : Int)] ((q6 : Nat) : Int) = some (V.int zt) ∧ -10 ≤ zt ∧ zt ≤ 40000 := by
        have : q6 = 0 ∨ q6 = 1 := by omega
        rcases this with z | z
        · exact ⟨_, by rw [z]; rfl, by omega, by omega⟩
        · exact ⟨_, by rw [z]; rfl, by omega, by omega⟩
      refine ⟨l, _, _, _, rfl, rfl, SqL.of l6, zat, _, _, rfl, gname_to ?_⟩
      obtain ⟨tick, etick, ti0, ti1⟩ : ∃ tick : Int, (if zt > 0 then zt else 0) = tick ∧ 0 ≤ tick ∧ tick ≤ 40000 := by
        by_cases h : zt > 0
        · exact ⟨zt, if_pos h, by omega, by omega⟩
        · exact ⟨0, if_neg h, by omega, by omega⟩
      rw [etick]
      clear etick zat zb1 zb2 zt l6 l5 s5 hl5 nlr D5 D4 D3 cap R6 R4 R3 R2 R1 k6 k4 k3 k2 k1
      -- the position
      obtain ⟨q, hq⟩ := D6.j.last
      rw [take_all] at hq
      obtain ⟨fs, hx, hno⟩ := D6.j.lv.ins
      refine ⟨_, rfl, x, dx, fs, rfl, hx, hno _ (by decide +kernel) (by decide +kernel) (by decide +kernel) (by decide +kernel) (by decide +kernel), _, rfl, _, rfl, x, dx, ss, [], (secs, cars), q, .str c.name, .int tick, rfl, D6.j.lv, hq, ⟨SO, CO⟩, D6.j.tab, .inr (.inr (.inr ⟨_, rfl⟩)), .inl ⟨_, rfl⟩, fun h => ?_, fun _ h => ?_, fun n' t' e1 e2 _ _ H7 u e7 T7 hu => ?_⟩
      · rw [inV_str, decide_eq_true hn] at h
        cases h
      · have : numB (.int tick) 0 1000000000 = true := by
          show (decide (0 ≤ tick) && decide (tick ≤ 1000000000)) = true
          rw [decide_eq_true ti0, decide_eq_true (by omega)]
          rfl
        rw [this] at h
        cases h
      obtain rfl := V.str.inj e1
      obtain rfl := V.int.inj e2
      have D7 := D6.ext e7 T7
      refine ⟨_, rfl, _, rfl, _, rfl, _, rfl, _, rfl, sl, a, t8, tk, od, secs, cars, c.name, tick, rfl, D7.j.se, D7.j.ca, D7.dr, D7.ts, D7.os, SO, CO, hn, fun H9 u9 s9 hu9 => ?_⟩
      have hu1 := s9 _ _ hu
      refine ⟨_, _, rfl, AlkV.tup hu1 hu9 rfl (by show 2 ≤ 100000; decide) (fun i u v h1 h2 => ?_), fun H10 s10 => ?_⟩
      · rw [h1] at h2
        cases h2
        match i, h1 with
        | 0, h1 =>
          cases h1
          exact .flat (.int _)
        | 1, h1 =>
          cases h1
          exact .flat (.int _)
      refine ⟨_, rfl, ?_⟩
      refine iteF ?_
      exact ⟨_, _, _, _, _, _, rfl, D7.same (s9.trans s10)⟩
    rintro σ H0 ⟨w5, w6, w7, w10, w11, w12, rfl, D0⟩
    clear D13
    generalize H0 = H14 at D0 ⊢
    have hnm : ∀ n ∈ names cars, n ∈ tenL := fun n hn => by
      obtain ⟨c, hc, rfl⟩ := List.mem_map.mp hn
      obtain ⟨j, hj⟩ := List.mem_iff_getElem?.mp hc
      exact List.mem_of_getElem? (RC.nm j c hj)
    have shc : Shp 2 (carsD cars) := shp_cars fun c hc => namesOk CO _ (List.mem_map_of_mem hc)
    -- no tick
    refine ⟨_, _, rfl, rfl, _, _, rfl, rfl, ⟨by decide, by decide, by decide⟩, _, _, rfl, rfl, by show 4 ≤ sizeLine; decide, fun tb htb => ?_⟩
    have sb := sameNew htb (.tup [V.int (0 - 1), V.int (10 ^ (9 : Int).toNat + 1), V.non, V.bl true])
    have tb1 : upd H14 tb (.tup [V.int (0 - 1), V.int (10 ^ (9 : Int).toNat + 1), V.non, V.bl true]) tb = some (.tup [V.int (0 - 1), V.int (10 ^ (9 : Int).toNat + 1), V.non, V.bl true]) := upd_same
    have D1 := D0.same sb
    refine ⟨tb, rfl, ⟨_, SqT.of tb1⟩, for_it walk_tup (fun i σ H => ∃ (w5 w6 w7 w10 w11 w12 w13 : Option V), σ = [some (.ref sc), some (.ref r), some (.ref sl), some (.ref a), some (.ref x), w5, w6, w7, some (.ref t8), some (.int ((mN : Nat) : Int)), w10, w11, w12, w13, none] ∧ D43 K CL CR T H r sc x dx sl a t8 tk od ns secs cars ss ∧ H tb = some (.tup [V.int (0 - 1), V.int (10 ^ (9 : Int).toNat + 1), V.non, V.bl true]))
      ⟨_, _, _, _, _, _, _, rfl, D1, tb1⟩ (fun _ _ _ _ ⟨_, _, _, _, _, _, _, _, _, k⟩ => SqT.of k) ?_ ?_⟩
    · clear D1 tb1 sb htb D0
      rintro i y σ H0 H hi ⟨w5, w6, w7, w10, w11, w12, w13, rfl, D0, tb1⟩ ⟨e, hy⟩
      subst e
      have hy : [V.int (0 - 1), V.int (10 ^ (9 : Int).toNat + 1), V.non, V.bl true][i]? = some y := hy
      have hyb : Plain y ∧ numB y 0 1000000000 = false := by
        match i, hi, hy with
        | 0, _, hy =>
          cases hy
          exact ⟨.inl ⟨_, rfl⟩, rfl⟩
        | 1, _, hy =>
          cases hy
          exact ⟨.inl ⟨_, rfl⟩, rfl⟩
        | 2, _, hy =>
          cases hy
          exact ⟨.inr (.inl rfl), rfl⟩
        | 3, _, hy =>
          cases hy
          exact ⟨.inr (.inr (.inl ⟨_, rfl⟩)), rfl⟩
      clear hy
      refine gname_to ?_
      refine ⟨_, rfl, by show 0 ≤ sizeLine; decide, fun e he => ?_⟩
      have s1 := sameNew he (.tup [])
      have D1 := D0.same s1
      have tb2 := s1 _ _ tb1
      refine ⟨carsD cars, .tuple [], dp_cars D1.j.ca, .tup (SqT.of upd_same) .nil, shc.ok (by decide), rfl, ?_⟩
      generalize upd H0 e (.tup []) = H1 at D1 tb2 ⊢
      refine ⟨_, rfl, ?_⟩
      rw [cars_nil]
      by_cases cne : cars = []
      · rw [decide_eq_true cne]
        refine iteF ?_
        refine iteF ?_
        exact ⟨_, _, _, _, _, _, _, rfl, D1, tb2⟩
      rw [decide_eq_false cne]
      refine iteT ?_
      have cpos : 0 < cars.length := List.length_pos_iff.mpr cne
      refine ⟨D1.j.tab, fun H2 e2 T2 => ?_⟩
      have D2 := D1.ext e2 T2
      have tb3 := ExtN.tup e2 tb2
      obtain ⟨us, ca1, ca2, ca3⟩ := id D2.j.ca
      obtain ⟨c, hc⟩ : ∃ c, cars[0]? = some c := ⟨_, List.getElem?_eq_getElem cpos⟩
      obtain ⟨t, hu0⟩ : ∃ t, us[0]? = some t := ⟨_, List.getElem?_eq_getElem (by omega)⟩
      have htv := ca3 _ _ _ hu0 hc
      have hn : c.name ∈ names cars := List.mem_map_of_mem (List.mem_of_getElem? hc)
      obtain ⟨q, hq⟩ := D2.j.last
      rw [take_all] at hq
      obtain ⟨fs, hx, hno⟩ := D2.j.lv.ins
      refine ⟨_, rfl, x, dx, fs, rfl, hx, hno _ (by decide +kernel) (by decide +kernel) (by decide +kernel) (by decide +kernel) (by decide +kernel), _, rfl, a, _, _, _, rfl, rfl, SqT.of ca1, atI_nat (j := 0) (map_at V.ref hu0), t, _, _, _, rfl, rfl, SqT.of htv, rfl, _, rfl, x, dx, ss, [], (secs, cars), q, .str c.name, y, rfl, D2.j.lv, hq, ⟨SO, CO⟩, D2.j.tab, .inr (.inr (.inr ⟨_, rfl⟩)), hyb.1, fun h => ?_, fun _ h H3 s3 => ?_, fun n' t' e1 e2 _ h => ?_⟩
      · rw [inV_str, decide_eq_true hn] at h
        cases h
      · refine ⟨c9, 9, .non, .non, rfl, X9.rN, .inr rfl, .inl rfl, .inl (by decide), fun H4 p s4 hp => ?_⟩
        refine ⟨by show 1 ≤ sizeLine; decide, fun u hu => ?_⟩
        have s5 := sameNew hu (.tup [V.str "number"])
        have hp5 := s5 _ _ hp
        refine ⟨.tuple [.str "number"], .tuple [.str "number"], .tup (SqT.of hp5) (.cons (.str _) .nil), .tup (SqT.of upd_same) (.cons (.str _) .nil), by decide +kernel, by decide +kernel, ?_⟩
        refine ⟨_, rfl, ?_⟩
        rw [show (!PyData.eqv (.tuple [.str "number"]) (.tuple [.str "number"])) = false by decide +kernel]
        refine iteF ?_
        exact ⟨_, _, _, _, _, _, _, rfl, D2.same (s3.trans (s4.trans s5)), s5 _ _ (s4 _ _ (s3 _ _ tb3))⟩
      · rw [hyb.2] at h
        cases h
    rintro σ H0 ⟨w5, w6, w7, w10, w11, w12, w13, rfl, D2, _⟩
    clear D1 tb1 sb htb D0
    -- no car
    refine ⟨by show 3 ≤ sizeLine; decide, fun t ht => ?_⟩
    have s1 := sameNew ht (.tup [V.str "nono", V.non, V.int 5])
    have ht1 : upd H0 t (.tup [V.str "nono", V.non, V.int 5]) t = some (.tup [V.str "nono", V.non, V.int 5]) := upd_same
    have D3 := D2.same s1
    generalize upd H0 t (.tup [V.str "nono", V.non, V.int 5]) = H1 at D3 ht1 ⊢
    refine ⟨t, rfl, ⟨_, SqT.of ht1⟩, fun D hD => ?_⟩
    refine lc_it walk_tup (fun i H3 => D43 K CL CR T H3 r sc x dx sl a t8 tk od ns secs cars ss ∧ H3 t = some (.tup [V.str "nono", V.non, V.int 5]) ∧ H3 D = some (.lst []))
      ⟨D3.same (sameNew hD _), sameNew hD _ _ _ ht1, upd_same⟩ (fun i H3 _ ⟨_, q, _⟩ => SqT.of q) ?_ ?_
    · rintro i y Hz H3 hi ⟨D4, t4', d4⟩ ⟨e, hy⟩
      subst e
      have hy : [V.str "nono", V.non, V.int 5][i]? = some y := hy
      have hyp : Plain y ∧ inV y ((names cars).map V.str) = false ∧ FlatV y ∧ ∃ dy, (∀ H, Dp K H y dy) ∧ SeqAt.shaped (.tuple [.str "nocar", dy]) = true ∧ PyData.eqv (.tuple [.str "nocar", dy]) (.tuple [.str "nocar", dy]) = true := by
        match i, hi, hy with
        | 0, _, hy =>
          cases hy
          refine ⟨.inr (.inr (.inr ⟨_, rfl⟩)), ?_, .str _, .str "nono", fun _ => .str _, by decide +kernel, by decide +kernel⟩
          rw [inV_str]
          exact decide_eq_false fun z => absurd (hnm _ z) (by decide +kernel)
        | 1, _, hy =>
          cases hy
          refine ⟨.inr (.inl rfl), ?_, .non, .none, fun _ => .non, by decide +kernel, by decide +kernel⟩
          cases h : inV V.non ((names cars).map V.str)
          · rfl
          · obtain ⟨n, e, _⟩ := inV_plain (.inr (.inl rfl)) h
            cases e
        | 2, _, hy =>
          cases hy
          refine ⟨.inl ⟨_, rfl⟩, ?_, .int _, .int 5, fun _ => .int _, by decide +kernel, by decide +kernel⟩
          cases h : inV (V.int 5) ((names cars).map V.str)
          · rfl
          · obtain ⟨n, e, _⟩ := inV_plain (.inl ⟨_, rfl⟩) h
            cases e
      obtain ⟨py, iy, fy, dy, dpy, dys, dye⟩ := hyp
      refine ⟨rfl, ?_⟩
      refine ⟨D4.j.tab, fun H5 e5 T5 => ?_⟩
      have D5 := D4.ext e5 T5
      have t5 := ExtN.tup e5 t4'
      have d5 := ExtN.lst e5 d4
      obtain ⟨q, hq⟩ := D5.j.last
      rw [take_all] at hq
      obtain ⟨fs, hx, hno⟩ := D5.j.lv.ins
      refine ⟨_, rfl, x, dx, fs, rfl, hx, hno _ (by decide +kernel) (by decide +kernel) (by decide +kernel) (by decide +kernel) (by decide +kernel), _, rfl, _, _, rfl, rfl, x, dx, ss, [], (secs, cars), q, y, .int (0 - 1), rfl, D5.j.lv, hq, ⟨SO, CO⟩, D5.j.tab, py, .inl ⟨_, rfl⟩, fun _ H6 d6 fs6 s6 hd6 hf6 => ?_, fun h => ?_, fun n' t' e1 e2 h => ?_⟩
      · refine ⟨CU, 7, y, .non, rfl, X9.rU, .inl rfl, .inr ⟨d6, fs6, rfl, hd6⟩, .inr ⟨d6, fs6, rfl, hd6, hf6⟩, fun H7 p s7 hp => ?_⟩
        refine ⟨_, rfl, by show 2 ≤ sizeLine; decide, fun u hu => ?_⟩
        have s8 := sameNew hu (.tup [V.str "nocar", y])
        have hp8 := s8 _ _ hp
        refine ⟨.tuple [.str "nocar", dy], .tuple [.str "nocar", dy], .tup (SqT.of hp8) (.cons (.str _) (.cons (dpy _) .nil)), .tup (SqT.of upd_same) (.cons (.str _) (.cons (dpy _) .nil)), dys, dys, ?_⟩
        refine ⟨_, rfl, ?_⟩
        rw [dye]
        refine iteF ?_
        have s68 := s6.trans (s7.trans s8)
        exact ⟨D5.same s68, s68 _ _ t5, s68 _ _ d5⟩
      · rw [iy] at h
        cases h
      · rw [e1, inV_str, decide_eq_true h] at iy
        cases iy
    rintro H3 ⟨D4, _, d4⟩
    refine ⟨by show 0 ≤ sizeLine; decide, fun u hu => ?_⟩
    have s5 := sameNew hu (.lst [])
    refine ⟨.list [], .list [], .lst (SqL.of (s5 _ _ d4)) .nil, .lst (SqL.of upd_same) .nil, rfl, rfl, ?_⟩
    exact k _
end
end Sl

set_option Elab.async false
set_option linter.all false
/-! facts of own errors' classes from what k_is answers -/
namespace OwnR
open PySem PySem.Spec L2
section
variable {K : PySem.W.Frag} {C D : Addr} {b : Bool}
theorem kit_tyE {T : String} (h1 : PySem.W.kitMeta T = true) (h : PySem.W.subIn K (.ref C) (.type T) = some b) : PySem.W.kitOne K (.ref C) (.type T) = some b := by
  show (if (Value.ref C == Value.type T) = true then some true else PySem.W.kitCls K (.ref C) (.type T)) = some b
  have e : (Value.ref C == Value.type T) = false := by
    refine Bool.eq_false_iff.mpr fun q => ?_
    have := beq_iff_eq.mp q
    cases this
  rw [e]
  show (if PySem.W.kitMeta T = true then PySem.W.subIn K (.ref C) (.type T) else none) = some b
  rw [if_pos h1, h]
theorem kit_refE (hs : PySem.W.subIn K (.ref C) (.ref C) = some true) (c : PySem.W.isClsIn K D = true) (t : PySem.W.typeIn K (.ref D) = some (.type "type")) (h : PySem.W.subIn K (.ref C) (.ref D) = some b) : PySem.W.kitOne K (.ref C) (.ref D) = some b := by
  show (if (Value.ref C == Value.ref D) = true then some true else PySem.W.kitCls K (.ref C) (.ref D)) = some b
  by_cases q : (Value.ref C == Value.ref D) = true
  · rw [if_pos q]
    have e := Value.ref.inj (beq_iff_eq.mp q)
    subst e
    rw [hs] at h
    exact h
  · rw [if_neg q]
    have c2 : (PySem.W.clsIn K D).isSome = true := c
    have e2 : ((PySem.W.clsIn K D).isSome && PySem.W.typeIn K (.ref D) == some (.type "type")) = true := by rw [c2, t] <;> rfl
    show (if ((PySem.W.clsIn K D).isSome && PySem.W.typeIn K (.ref D) == some (.type "type")) = true then PySem.W.subIn K (.ref C) (.ref D) else none) = some b
    rw [if_pos e2, h]
end
end OwnR

set_option Elab.async false
set_option linter.all false
set_option maxRecDepth 100000
set_option maxHeartbeats 4000000
namespace Sl
open PySem PySem.Spec L2 OwnR LamX
theorem tabS0 {H : Hp} {P : Addr} {q : Str} (h : H P = some (.tbl #[])) : TabS H P q := ⟨#[], h, by first | exact trivial | simp [PySem.W.TriplesOk] | decide, fun pos cv e => by first | cases e | simp [codeAmong] at e⟩
theorem all_mk {l : PySem.W.OpenLaw} {w : World} {K : PySem.W.Frag} {h : Heap} {mg : Str → Option Value} {fa C CR : Addr} (X : K.In h) (G : h.Ns mainGlobals mg) (hfa : mg "law" = some (.ref fa))
    {fin : Addr} {odin anin : Option Addr} {slin : Array (Option Value)} {ocin kVin dcin pmin ctin : Value} {cdin : Value}
    {fnm : Addr} {odnm annm : Option Addr} {slnm : Array (Option Value)} {ocnm kVnm dcnm pmnm ctnm : Value} {cdnm : Value}
    {fic : Addr} {odic anic : Option Addr} {slic : Array (Option Value)} {ocic kVic dcic pmic ctic : Value} {cdic : Value}
    {fcc : Addr} {odcc ancc : Option Addr} {slcc : Array (Option Value)} {occc kVcc dccc pmcc ctcc : Value} {cdcc : Value}
    {fkn : Addr} {odkn ankn : Option Addr} {slkn : Array (Option Value)} {ockn kVkn dckn pmkn ctkn : Value} {cdkn : Value}
    {fcw : Addr} {odcw ancw : Option Addr} {slcw : Array (Option Value)} {occw kVcw dccw pmcw ctcw : Value} {cdcw : Value}
    {ccio Pio : Addr}
    {fio : Addr} {odio anio : Option Addr} {slio : Array (Option Value)} {ocio kVio dcio pmio ctio : Value}
    {ffo : Addr} {odfo anfo : Option Addr} {slfo : Array (Option Value)} {ocfo kVfo dcfo pmfo ctfo : Value} {cdfo : Value}
    {fdv : Addr} {oddv andv : Option Addr} {sldv : Array (Option Value)} {ocdv kVdv dcdv pmdv ctdv : Value} {cddv : Value}
    {fis : Addr} {odis anis : Option Addr} {slis : Array (Option Value)} {ocis kVis dcis pmis ctis : Value} {cdis : Value}
    {fuo : Addr} {oduo anuo : Option Addr} {sluo : Array (Option Value)} {ocuo kVuo dcuo pmuo ctuo : Value} {cduo : Value}
    {fru : Addr} {odru anru : Option Addr} {slru : Array (Option Value)} {ocru kVru dcru pmru ctru : Value} {cdru : Value}
    {fai : Addr} {odai anai : Option Addr} {slai : Array (Option Value)} {ocai kVai dcai pmai ctai : Value} {cdai : Value}
    {fch : Addr} {odch anch : Option Addr} {slch : Array (Option Value)} {occh kVch dcch pmch ctch : Value} {cdch : Value}
    {fjo : Addr} {odjo anjo : Option Addr} {sljo : Array (Option Value)} {ocjo kVjo dcjo pmjo ctjo : Value} {cdjo : Value}
    {fre : Addr} {odre anre : Option Addr} {slre : Array (Option Value)} {ocre kVre dcre pmre ctre : Value} {cdre : Value}
    {fsk : Addr} {odsk ansk : Option Addr} {slsk : Array (Option Value)} {ocsk kVsk dcsk pmsk ctsk : Value} {cdsk : Value}
    {fop : Addr} {odop anop : Option Addr} {slop : Array (Option Value)} {ocop kVop dcop pmop ctop : Value} {cdop : Value}
    {fex : Addr} {odex anex : Option Addr} {slex : Array (Option Value)} {ocex kVex dcex pmex ctex : Value} {cdex : Value}
    {fpa : Addr} {odpa anpa : Option Addr} {slpa : Array (Option Value)} {ocpa kVpa dcpa pmpa ctpa : Value} {cdpa : Value}
    {fle : Addr} {odle anle : Option Addr} {slle : Array (Option Value)} {ocle kVle dcle pmle ctle : Value} {cdle : Value}
    {fah : Addr} {odah anah : Option Addr} {slah : Array (Option Value)} {ocah kVah dcah pmah ctah : Value} {cdah : Value}
    {fta : Addr} {odta anta : Option Addr} {slta : Array (Option Value)} {octa kVta dcta pmta ctta : Value} {cdta : Value}
    {fal : Addr} {odal anal : Option Addr} {slal : Array (Option Value)} {ocal kVal dcal pmal ctal : Value} {cdal : Value}
    {fto : Addr} {odto anto : Option Addr} {slto : Array (Option Value)} {octo kVto dcto pmto ctto : Value} {cdto : Value}
    {fse : Addr} {odse anse : Option Addr} {slse : Array (Option Value)} {ocse kVse dcse pmse ctse : Value} {cdse : Value}
    {frd : Addr} {odrd anrd : Option Addr} {slrd : Array (Option Value)} {ocrd kVrd dcrd pmrd ctrd : Value} {cdrd : Value}
    {fjn : Addr} {odjn anjn : Option Addr} {sljn : Array (Option Value)} {ocjn kVjn dcjn pmjn ctjn : Value} {cdjn : Value}
    {fca : Addr} {odca anca : Option Addr} {slca : Array (Option Value)} {occa kVca dcca pmca ctca : Value} {cdca : Value}
    {fld : Addr} {odld anld : Option Addr} {slld : Array (Option Value)} {ocld kVld dcld pmld ctld : Value} {cdld : Value}
    {fvi : Addr} {odvi anvi : Option Addr} {slvi : Array (Option Value)} {ocvi kVvi dcvi pmvi ctvi : Value} {cdvi : Value}
    {fps : Addr} {odps anps : Option Addr} {slps : Array (Option Value)} {ocps kVps dcps pmps ctps : Value} {cdps : Value}
    {ccla Pla : Addr}
    {fla : Addr} {odla anla : Option Addr} {slla : Array (Option Value)} {ocla kVla dcla pmla ctla : Value}
    {fDi : Addr} {odDi anDi : Option Addr} {slDi : Array (Option Value)} {ocDi kVDi dcDi pmDi ctDi : Value} {cdDi : Value}
    {fDc : Addr} {odDc anDc : Option Addr} {slDc : Array (Option Value)} {ocDc kVDc dcDc pmDc ctDc : Value} {cdDc : Value}
    {fDp : Addr} {odDp anDp : Option Addr} {slDp : Array (Option Value)} {ocDp kVDp dcDp pmDp ctDp : Value} {cdDp : Value}
    {fDo : Addr} {odDo anDo : Option Addr} {slDo : Array (Option Value)} {ocDo kVDo dcDo pmDo ctDo : Value} {cdDo : Value}
    {fDg : Addr} {odDg anDg : Option Addr} {slDg : Array (Option Value)} {ocDg kVDg dcDg pmDg ctDg : Value} {cdDg : Value}
    {Td : Addr} {odT : Option Addr} {ocT : Value} {slT : Array (Option Value)} {nT : Nat}
    {fDa : Addr} {odDa anDa : Option Addr} {slDa : Array (Option Value)} {ocDa kVDa dcDa pmDa ctDa : Value} {cdDa : Value}
    {fDh : Addr} {odDh anDh : Option Addr} {slDh : Array (Option Value)} {ocDh kVDh dcDh pmDh ctDh : Value} {cdDh : Value}
    {fRi : Addr} {odRi anRi : Option Addr} {slRi : Array (Option Value)} {ocRi kVRi dcRi pmRi ctRi : Value} {cdRi : Value}
    {fLi : Addr} {odLi anLi : Option Addr} {slLi : Array (Option Value)} {ocLi kVLi dcLi pmLi ctLi : Value} {cdLi : Value}
    {fLj : Addr} {odLj anLj : Option Addr} {slLj : Array (Option Value)} {ocLj kVLj dcLj pmLj ctLj : Value} {cdLj : Value}
    {fLp : Addr} {odLp anLp : Option Addr} {slLp : Array (Option Value)} {ocLp kVLp dcLp pmLp ctLp : Value} {cdLp : Value}
    {fLq : Addr} {odLq anLq : Option Addr} {slLq : Array (Option Value)} {ocLq kVLq dcLq pmLq ctLq : Value} {cdLq : Value}
    {CL : Addr}
    {pO : Addr} {mc : Value} {rO : List Value}
    {fRo : Addr} {odRo anRo : Option Addr} {slRo : Array (Option Value)} {ocRo kVRo dcRo pmRo ctRo : Value} {cdRo : Value}
    {pRs : Addr} {rRsL : List Value}
    {fRs : Addr} {odRs anRs : Option Addr} {slRs : Array (Option Value)} {ocRs kVRs dcRs pmRs ctRs : Value} {cdRs : Value}
    {CE c0 c1 c2 c3 c4 c5 c6 c7 c8 c9 c10 c11 c12 c13 ap gp : Addr} {nmU qU : Str} {NU : Addr} {bsU : List Value} {snU : List Str} {subU : List Value} {abU : Bool} {colU : Option Bool} {ddU : Option Addr} {u0U u1U u2U u3U u5U : Option Value} {fUi : Addr} {odUi anUi : Option Addr} {slUi : Array (Option Value)} {ocUi kVUi dcUi pmUi cdUi ctUi : Value} {nmO qO : Str} {NO : Addr} {bsO : List Value} {snO : List Str} {subO : List Value} {abO : Bool} {colO : Option Bool} {ddO : Option Addr} {u0O u1O u2O u3O u5O : Option Value} {fOi : Addr} {odOi anOi : Option Addr} {slOi : Array (Option Value)} {ocOi kVOi dcOi pmOi cdOi ctOi : Value}
    {t0 t1 t2 t3 t4 t5 t6 : Tok} {lp kp : Addr}
    (aC : PySem.W.nsIn K mainGlobals "Drive" = some (some (.ref C)))
    (aR : PySem.W.nsIn K mainGlobals "Road" = some (some (.ref CR)))
    (aX3 : PySem.W.nsIn K mainGlobals "LiveRoad" = some (some (.ref CL)))
    (ain : PySem.W.nsIn K mainGlobals "is_number" = some (some (.ref fin)))
    (lin : K.lookup fin = some ⟨ocin, odin, .func (PySem.W.fnOf "is_number" "is_number" (defArgs sIsNumber) (defBody sIsNumber) (defScope sIsNumber) .none kVin dcin pmin anin cdin ctin), slin⟩)
    (cin : PySem.W.codeIn K cdin "is_number" = true)
    (kin : PySem.W.keepIn K (.ref fin) = true)
    (anm : PySem.W.nsIn K mainGlobals "is_name" = some (some (.ref fnm)))
    (lnm : K.lookup fnm = some ⟨ocnm, odnm, .func (PySem.W.fnOf "is_name" "is_name" (defArgs sIsName) (defBody sIsName) (defScope sIsName) .none kVnm dcnm pmnm annm cdnm ctnm), slnm⟩)
    (cnm : PySem.W.codeIn K cdnm "is_name" = true)
    (knm : PySem.W.keepIn K (.ref fnm) = true)
    (aic : PySem.W.nsIn K mainGlobals "is_car" = some (some (.ref fic)))
    (lic : K.lookup fic = some ⟨ocic, odic, .func (PySem.W.fnOf "is_car" "is_car" (defArgs sIsCar) (defBody sIsCar) (defScope sIsCar) .none kVic dcic pmic anic cdic ctic), slic⟩)
    (cic : PySem.W.codeIn K cdic "is_car" = true)
    (kic : PySem.W.keepIn K (.ref fic) = true)
    (acc : PySem.W.nsIn K mainGlobals "check_cars" = some (some (.ref fcc)))
    (lcc : K.lookup fcc = some ⟨occc, odcc, .func (PySem.W.fnOf "check_cars" "check_cars" (defArgs sCheckCars) (defBody sCheckCars) (defScope sCheckCars) .none kVcc dccc pmcc ancc cdcc ctcc), slcc⟩)
    (ccc : PySem.W.codeIn K cdcc "check_cars" = true)
    (kcc : PySem.W.keepIn K (.ref fcc) = true)
    (akn : PySem.W.nsIn K mainGlobals "check_known" = some (some (.ref fkn)))
    (lkn : K.lookup fkn = some ⟨ockn, odkn, .func (PySem.W.fnOf "check_known" "check_known" (defArgs sCheckKnown) (defBody sCheckKnown) (defScope sCheckKnown) .none kVkn dckn pmkn ankn cdkn ctkn), slkn⟩)
    (ckn : PySem.W.codeIn K cdkn "check_known" = true)
    (kkn : PySem.W.keepIn K (.ref fkn) = true)
    (acw : PySem.W.nsIn K mainGlobals "check_new_name" = some (some (.ref fcw)))
    (lcw : K.lookup fcw = some ⟨occw, odcw, .func (PySem.W.fnOf "check_new_name" "check_new_name" (defArgs sCheckNewName) (defBody sCheckNewName) (defScope sCheckNewName) .none kVcw dccw pmcw ancw cdcw ctcw), slcw⟩)
    (ccw : PySem.W.codeIn K cdcw "check_new_name" = true)
    (kcw : PySem.W.keepIn K (.ref fcw) = true)
    (aio : PySem.W.nsIn K mainGlobals "_in_order" = some (some (.ref fio)))
    (lio : K.lookup fio = some ⟨ocio, odio, .func (PySem.W.fnOf "_in_order" "_in_order" (defArgs sInOrder) (defBody sInOrder) (defScope sInOrder) .none kVio dcio pmio anio (.ref ccio) ctio), slio⟩)
    (cio : PySem.W.codeIn K (.ref ccio) "_in_order" = true)
    (kio : PySem.W.keepIn K (.ref fio) = true)
    (hio : PySem.W.codeHdIn K ccio Pio = true)
    (nio : K.lookup Pio = none)
    (afo : PySem.W.nsIn K mainGlobals "_follow" = some (some (.ref ffo)))
    (lfo : K.lookup ffo = some ⟨ocfo, odfo, .func (PySem.W.fnOf "_follow" "_follow" (defArgs sFollow) (defBody sFollow) (defScope sFollow) .none kVfo dcfo pmfo anfo cdfo ctfo), slfo⟩)
    (cfo : PySem.W.codeIn K cdfo "_follow" = true)
    (kfo : PySem.W.keepIn K (.ref ffo) = true)
    (adv : PySem.W.nsIn K mainGlobals "drive_all" = some (some (.ref fdv)))
    (ldv : K.lookup fdv = some ⟨ocdv, oddv, .func (PySem.W.fnOf "drive_all" "drive_all" (defArgs sDriveAll) (defBody sDriveAll) (defScope sDriveAll) .none kVdv dcdv pmdv andv cddv ctdv), sldv⟩)
    (cdv : PySem.W.codeIn K cddv "drive_all" = true)
    (kdv : PySem.W.keepIn K (.ref fdv) = true)
    (ais : PySem.W.nsIn K mainGlobals "_is_section" = some (some (.ref fis)))
    (lis : K.lookup fis = some ⟨ocis, odis, .func (PySem.W.fnOf "_is_section" "_is_section" (defArgs sIsSection) (defBody sIsSection) (defScope sIsSection) .none kVis dcis pmis anis cdis ctis), slis⟩)
    (cis : PySem.W.codeIn K cdis "_is_section" = true)
    (kis : PySem.W.keepIn K (.ref fis) = true)
    (auo : PySem.W.nsIn K mainGlobals "_units_of" = some (some (.ref fuo)))
    (luo : K.lookup fuo = some ⟨ocuo, oduo, .func (PySem.W.fnOf "_units_of" "_units_of" (defArgs sUnitsOf) (defBody sUnitsOf) (defScope sUnitsOf) .none kVuo dcuo pmuo anuo cduo ctuo), sluo⟩)
    (cuo : PySem.W.codeIn K cduo "_units_of" = true)
    (kuo : PySem.W.keepIn K (.ref fuo) = true)
    (aru : PySem.W.nsIn K mainGlobals "_runs" = some (some (.ref fru)))
    (lru : K.lookup fru = some ⟨ocru, odru, .func (PySem.W.fnOf "_runs" "_runs" (defArgs sRuns) (defBody sRuns) (defScope sRuns) .none kVru dcru pmru anru cdru ctru), slru⟩)
    (cru : PySem.W.codeIn K cdru "_runs" = true)
    (kru : PySem.W.keepIn K (.ref fru) = true)
    (aai : PySem.W.nsIn K mainGlobals "_arrivals" = some (some (.ref fai)))
    (lai : K.lookup fai = some ⟨ocai, odai, .func (PySem.W.fnOf "_arrivals" "_arrivals" (defArgs sArrivals) (defBody sArrivals) (defScope sArrivals) .none kVai dcai pmai anai cdai ctai), slai⟩)
    (cai : PySem.W.codeIn K cdai "_arrivals" = true)
    (kai : PySem.W.keepIn K (.ref fai) = true)
    (ach : PySem.W.nsIn K mainGlobals "_changes" = some (some (.ref fch)))
    (lch : K.lookup fch = some ⟨occh, odch, .func (PySem.W.fnOf "_changes" "_changes" (defArgs sChanges) (defBody sChanges) (defScope sChanges) .none kVch dcch pmch anch cdch ctch), slch⟩)
    (cch : PySem.W.codeIn K cdch "_changes" = true)
    (kch : PySem.W.keepIn K (.ref fch) = true)
    (ajo : PySem.W.nsIn K mainGlobals "_join" = some (some (.ref fjo)))
    (ljo : K.lookup fjo = some ⟨ocjo, odjo, .func (PySem.W.fnOf "_join" "_join" (defArgs sJoin) (defBody sJoin) (defScope sJoin) .none kVjo dcjo pmjo anjo cdjo ctjo), sljo⟩)
    (cjo : PySem.W.codeIn K cdjo "_join" = true)
    (kjo : PySem.W.keepIn K (.ref fjo) = true)
    (are : PySem.W.nsIn K mainGlobals "_remove" = some (some (.ref fre)))
    (lre : K.lookup fre = some ⟨ocre, odre, .func (PySem.W.fnOf "_remove" "_remove" (defArgs sRemove) (defBody sRemove) (defScope sRemove) .none kVre dcre pmre anre cdre ctre), slre⟩)
    (cre : PySem.W.codeIn K cdre "_remove" = true)
    (kre : PySem.W.keepIn K (.ref fre) = true)
    (ask : PySem.W.nsIn K mainGlobals "_set_kind" = some (some (.ref fsk)))
    (lsk : K.lookup fsk = some ⟨ocsk, odsk, .func (PySem.W.fnOf "_set_kind" "_set_kind" (defArgs sSetKind) (defBody sSetKind) (defScope sSetKind) .none kVsk dcsk pmsk ansk cdsk ctsk), slsk⟩)
    (csk : PySem.W.codeIn K cdsk "_set_kind" = true)
    (ksk : PySem.W.keepIn K (.ref fsk) = true)
    (aop : PySem.W.nsIn K mainGlobals "_is_operation" = some (some (.ref fop)))
    (lop : K.lookup fop = some ⟨ocop, odop, .func (PySem.W.fnOf "_is_operation" "_is_operation" (defArgs sIsOperation) (defBody sIsOperation) (defScope sIsOperation) .none kVop dcop pmop anop cdop ctop), slop⟩)
    (cop : PySem.W.codeIn K cdop "_is_operation" = true)
    (kop : PySem.W.keepIn K (.ref fop) = true)
    (aex : PySem.W.nsIn K mainGlobals "_execute" = some (some (.ref fex)))
    (lex : K.lookup fex = some ⟨ocex, odex, .func (PySem.W.fnOf "_execute" "_execute" (defArgs sExecute) (defBody sExecute) (defScope sExecute) .none kVex dcex pmex anex cdex ctex), slex⟩)
    (cex : PySem.W.codeIn K cdex "_execute" = true)
    (kex : PySem.W.keepIn K (.ref fex) = true)
    (apa : PySem.W.nsIn K mainGlobals "position_at" = some (some (.ref fpa)))
    (lpa : K.lookup fpa = some ⟨ocpa, odpa, .func (PySem.W.fnOf "position_at" "position_at" (defArgs sPositionAt) (defBody sPositionAt) (defScope sPositionAt) .none kVpa dcpa pmpa anpa cdpa ctpa), slpa⟩)
    (cpa : PySem.W.codeIn K cdpa "position_at" = true)
    (kpa : PySem.W.keepIn K (.ref fpa) = true)
    (ale : PySem.W.nsIn K mainGlobals "_least" = some (some (.ref fle)))
    (lle : K.lookup fle = some ⟨ocle, odle, .func (PySem.W.fnOf "_least" "_least" (defArgs sLeast) (defBody sLeast) (defScope sLeast) .none kVle dcle pmle anle cdle ctle), slle⟩)
    (cle : PySem.W.codeIn K cdle "_least" = true)
    (kle : PySem.W.keepIn K (.ref fle) = true)
    (aah : PySem.W.nsIn K mainGlobals "_ahead_inside" = some (some (.ref fah)))
    (lah : K.lookup fah = some ⟨ocah, odah, .func (PySem.W.fnOf "_ahead_inside" "_ahead_inside" (defArgs sAheadInside) (defBody sAheadInside) (defScope sAheadInside) .none kVah dcah pmah anah cdah ctah), slah⟩)
    (cah : PySem.W.codeIn K cdah "_ahead_inside" = true)
    (kah : PySem.W.keepIn K (.ref fah) = true)
    (ata : PySem.W.nsIn K mainGlobals "_law_taken" = some (some (.ref fta)))
    (lta : K.lookup fta = some ⟨octa, odta, .func (PySem.W.fnOf "_law_taken" "_law_taken" (defArgs sTaken) (defBody sTaken) (defScope sTaken) .none kVta dcta pmta anta cdta ctta), slta⟩)
    (cta : PySem.W.codeIn K cdta "_law_taken" = true)
    (kta : PySem.W.keepIn K (.ref fta) = true)
    (aal : PySem.W.nsIn K mainGlobals "_law_alike" = some (some (.ref fal)))
    (lal : K.lookup fal = some ⟨ocal, odal, .func (PySem.W.fnOf "_law_alike" "_law_alike" (defArgs sAlike) (defBody sAlike) (defScope sAlike) .none kVal dcal pmal anal cdal ctal), slal⟩)
    (cal : PySem.W.codeIn K cdal "_law_alike" = true)
    (kal : PySem.W.keepIn K (.ref fal) = true)
    (ato : PySem.W.nsIn K mainGlobals "_law_raised" = some (some (.ref fto)))
    (lto : K.lookup fto = some ⟨octo, odto, .func (PySem.W.fnOf "_law_raised" "_law_raised" (defArgs sRaised) (defBody sRaised) (defScope sRaised) .none kVto dcto pmto anto cdto ctto), slto⟩)
    (cto : PySem.W.codeIn K cdto "_law_raised" = true)
    (kto : PySem.W.keepIn K (.ref fto) = true)
    (ase : PySem.W.nsIn K mainGlobals "_law_sections" = some (some (.ref fse)))
    (lse : K.lookup fse = some ⟨ocse, odse, .func (PySem.W.fnOf "_law_sections" "_law_sections" (defArgs sSections) (defBody sSections) (defScope sSections) .none kVse dcse pmse anse cdse ctse), slse⟩)
    (cse : PySem.W.codeIn K cdse "_law_sections" = true)
    (kse : PySem.W.keepIn K (.ref fse) = true)
    (ard : PySem.W.nsIn K mainGlobals "_law_road" = some (some (.ref frd)))
    (lrd : K.lookup frd = some ⟨ocrd, odrd, .func (PySem.W.fnOf "_law_road" "_law_road" (defArgs sLRoad) (defBody sLRoad) (defScope sLRoad) .none kVrd dcrd pmrd anrd cdrd ctrd), slrd⟩)
    (crd : PySem.W.codeIn K cdrd "_law_road" = true)
    (krd : PySem.W.keepIn K (.ref frd) = true)
    (ajn : PySem.W.nsIn K mainGlobals "_law_joined" = some (some (.ref fjn)))
    (ljn : K.lookup fjn = some ⟨ocjn, odjn, .func (PySem.W.fnOf "_law_joined" "_law_joined" (defArgs sJoined) (defBody sJoined) (defScope sJoined) .none kVjn dcjn pmjn anjn cdjn ctjn), sljn⟩)
    (cjn : PySem.W.codeIn K cdjn "_law_joined" = true)
    (kjn : PySem.W.keepIn K (.ref fjn) = true)
    (aca : PySem.W.nsIn K mainGlobals "_law_cars" = some (some (.ref fca)))
    (lca : K.lookup fca = some ⟨occa, odca, .func (PySem.W.fnOf "_law_cars" "_law_cars" (defArgs sCars) (defBody sCars) (defScope sCars) .none kVca dcca pmca anca cdca ctca), slca⟩)
    (cca : PySem.W.codeIn K cdca "_law_cars" = true)
    (kca : PySem.W.keepIn K (.ref fca) = true)
    (ald : PySem.W.nsIn K mainGlobals "_law_drive" = some (some (.ref fld)))
    (lld : K.lookup fld = some ⟨ocld, odld, .func (PySem.W.fnOf "_law_drive" "_law_drive" (defArgs sLDrive) (defBody sLDrive) (defScope sLDrive) .none kVld dcld pmld anld cdld ctld), slld⟩)
    (cld : PySem.W.codeIn K cdld "_law_drive" = true)
    (kld : PySem.W.keepIn K (.ref fld) = true)
    (avi : PySem.W.nsIn K mainGlobals "_law_divisor" = some (some (.ref fvi)))
    (lvi : K.lookup fvi = some ⟨ocvi, odvi, .func (PySem.W.fnOf "_law_divisor" "_law_divisor" (defArgs sDivisor) (defBody sDivisor) (defScope sDivisor) .none kVvi dcvi pmvi anvi cdvi ctvi), slvi⟩)
    (cvi : PySem.W.codeIn K cdvi "_law_divisor" = true)
    (kvi : PySem.W.keepIn K (.ref fvi) = true)
    (aps : PySem.W.nsIn K mainGlobals "_law_position" = some (some (.ref fps)))
    (lps : K.lookup fps = some ⟨ocps, odps, .func (PySem.W.fnOf "_law_position" "_law_position" (defArgs sPosition) (defBody sPosition) (defScope sPosition) .none kVps dcps pmps anps cdps ctps), slps⟩)
    (cps : PySem.W.codeIn K cdps "_law_position" = true)
    (kps : PySem.W.keepIn K (.ref fps) = true)
    (ala : PySem.W.nsIn K mainGlobals "law" = some (some (.ref fla)))
    (lla : K.lookup fla = some ⟨ocla, odla, .func (PySem.W.fnOf "law" "law" (defArgs sLaw) (defBody sLaw) (defScope sLaw) .none kVla dcla pmla anla (.ref ccla) ctla), slla⟩)
    (cla : PySem.W.codeIn K (.ref ccla) "law" = true)
    (kla : PySem.W.keepIn K (.ref fla) = true)
    (hla : PySem.W.codeHdIn K ccla Pla = true)
    (nla : K.lookup Pla = none)
    (aDi : PySem.W.findIn K (.ref C) "__init__" = some (some (.ref fDi)))
    (iDi : PySem.W.isFn K (.ref fDi) = true)
    (lDi : K.lookup fDi = some ⟨ocDi, odDi, .func (PySem.W.fnOf "__init__" "Drive.__init__" (defArgs sDInit) (defBody sDInit) (defScope sDInit) .none kVDi dcDi pmDi anDi cdDi ctDi), slDi⟩)
    (cDi : PySem.W.codeIn K cdDi "Drive.__init__" = true)
    (kDi : PySem.W.keepIn K (.ref fDi) = true)
    (aDc : PySem.W.findIn K (.ref C) "_check_car" = some (some (.ref fDc)))
    (iDc : PySem.W.isFn K (.ref fDc) = true)
    (lDc : K.lookup fDc = some ⟨ocDc, odDc, .func (PySem.W.fnOf "_check_car" "Drive._check_car" (defArgs sDCheckCar) (defBody sDCheckCar) (defScope sDCheckCar) .none kVDc dcDc pmDc anDc cdDc ctDc), slDc⟩)
    (cDc : PySem.W.codeIn K cdDc "Drive._check_car" = true)
    (kDc : PySem.W.keepIn K (.ref fDc) = true)
    (aDp : PySem.W.findIn K (.ref C) "_check_place" = some (some (.ref fDp)))
    (iDp : PySem.W.isFn K (.ref fDp) = true)
    (lDp : K.lookup fDp = some ⟨ocDp, odDp, .func (PySem.W.fnOf "_check_place" "Drive._check_place" (defArgs sDCheckPlace) (defBody sDCheckPlace) (defScope sDCheckPlace) .none kVDp dcDp pmDp anDp cdDp ctDp), slDp⟩)
    (cDp : PySem.W.codeIn K cdDp "Drive._check_place" = true)
    (kDp : PySem.W.keepIn K (.ref fDp) = true)
    (aDo : PySem.W.findIn K (.ref C) "order_at" = some (some (.ref fDo)))
    (iDo : PySem.W.isFn K (.ref fDo) = true)
    (lDo : K.lookup fDo = some ⟨ocDo, odDo, .func (PySem.W.fnOf "order_at" "Drive.order_at" (defArgs sDOrderAt) (defBody sDOrderAt) (defScope sDOrderAt) .none kVDo dcDo pmDo anDo cdDo ctDo), slDo⟩)
    (cDo : PySem.W.codeIn K cdDo "Drive.order_at" = true)
    (kDo : PySem.W.keepIn K (.ref fDo) = true)
    (aDg : PySem.W.findIn K (.ref C) "__getitem__" = some (some (.ref fDg)))
    (iDg : PySem.W.isFn K (.ref fDg) = true)
    (lDg : K.lookup fDg = some ⟨ocDg, odDg, .func (PySem.W.fnOf "__getitem__" "Drive.__getitem__" (defArgs sDGet) (defBody sDGet) (defScope sDGet) .none kVDg dcDg pmDg anDg cdDg ctDg), slDg⟩)
    (cDg : PySem.W.codeIn K cdDg "Drive.__getitem__" = true)
    (kDg : PySem.W.keepIn K (.ref fDg) = true)
    (aDa : PySem.W.findIn K (.ref C) "__call__" = some (some (.ref fDa)))
    (iDa : PySem.W.isFn K (.ref fDa) = true)
    (lDa : K.lookup fDa = some ⟨ocDa, odDa, .func (PySem.W.fnOf "__call__" "Drive.__call__" (defArgs sDCall) (defBody sDCall) (defScope sDCall) (.ref Td) kVDa dcDa pmDa anDa cdDa ctDa), slDa⟩)
    (cDa : PySem.W.codeIn K cdDa "Drive.__call__" = true)
    (kDa : PySem.W.keepIn K (.ref fDa) = true)
    (lT : K.lookup Td = some ⟨ocT, odT, .seq #[Value.none] nT, slT⟩)
    (aDh : PySem.W.findIn K (.ref C) "__contains__" = some (some (.ref fDh)))
    (iDh : PySem.W.isFn K (.ref fDh) = true)
    (lDh : K.lookup fDh = some ⟨ocDh, odDh, .func (PySem.W.fnOf "__contains__" "Drive.__contains__" (defArgs sDHas) (defBody sDHas) (defScope sDHas) .none kVDh dcDh pmDh anDh cdDh ctDh), slDh⟩)
    (cDh : PySem.W.codeIn K cdDh "Drive.__contains__" = true)
    (kDh : PySem.W.keepIn K (.ref fDh) = true)
    (aRi : PySem.W.findIn K (.ref CR) "__init__" = some (some (.ref fRi)))
    (iRi : PySem.W.isFn K (.ref fRi) = true)
    (lRi : K.lookup fRi = some ⟨ocRi, odRi, .func (PySem.W.fnOf "__init__" "Road.__init__" (defArgs sRInit) (defBody sRInit) (defScope sRInit) .none kVRi dcRi pmRi anRi cdRi ctRi), slRi⟩)
    (cRi : PySem.W.codeIn K cdRi "Road.__init__" = true)
    (kRi : PySem.W.keepIn K (.ref fRi) = true)
    (aLi : PySem.W.findIn K (.ref CL) "__init__" = some (some (.ref fLi)))
    (iLi : PySem.W.isFn K (.ref fLi) = true)
    (lLi : K.lookup fLi = some ⟨ocLi, odLi, .func (PySem.W.fnOf "__init__" "LiveRoad.__init__" (defArgs sLiveRoadInit) (defBody sLiveRoadInit) (defScope sLiveRoadInit) .none kVLi dcLi pmLi anLi cdLi ctLi), slLi⟩)
    (cLi : PySem.W.codeIn K cdLi "LiveRoad.__init__" = true)
    (kLi : PySem.W.keepIn K (.ref fLi) = true)
    (aLj : PySem.W.findIn K (.ref CL) "join" = some (some (.ref fLj)))
    (iLj : PySem.W.isFn K (.ref fLj) = true)
    (lLj : K.lookup fLj = some ⟨ocLj, odLj, .func (PySem.W.fnOf "join" "LiveRoad.join" (defArgs sLiveRoadJoin) (defBody sLiveRoadJoin) (defScope sLiveRoadJoin) .none kVLj dcLj pmLj anLj cdLj ctLj), slLj⟩)
    (cLj : PySem.W.codeIn K cdLj "LiveRoad.join" = true)
    (kLj : PySem.W.keepIn K (.ref fLj) = true)
    (aLp : PySem.W.findIn K (.ref CL) "apply" = some (some (.ref fLp)))
    (iLp : PySem.W.isFn K (.ref fLp) = true)
    (lLp : K.lookup fLp = some ⟨ocLp, odLp, .func (PySem.W.fnOf "apply" "LiveRoad.apply" (defArgs sLiveRoadApply) (defBody sLiveRoadApply) (defScope sLiveRoadApply) .none kVLp dcLp pmLp anLp cdLp ctLp), slLp⟩)
    (cLp : PySem.W.codeIn K cdLp "LiveRoad.apply" = true)
    (kLp : PySem.W.keepIn K (.ref fLp) = true)
    (aLq : PySem.W.findIn K (.ref CL) "position" = some (some (.ref fLq)))
    (iLq : PySem.W.isFn K (.ref fLq) = true)
    (lLq : K.lookup fLq = some ⟨ocLq, odLq, .func (PySem.W.fnOf "position" "LiveRoad.position" (defArgs sLiveRoadPosition) (defBody sLiveRoadPosition) (defScope sLiveRoadPosition) .none kVLq dcLq pmLq anLq cdLq ctLq), slLq⟩)
    (cLq : PySem.W.codeIn K cdLq "LiveRoad.position" = true)
    (kLq : PySem.W.keepIn K (.ref fLq) = true)
    (aRo : PySem.W.findCls K (.ref CR) mc "of_units" = some (.get (.builtin "classmethod.__get__") (.ref pO) .none (.ref CR)))
    (rRo : PySem.W.recIn K pO "classmethod" = some (.ref fRo :: rO))
    (lRo : K.lookup fRo = some ⟨ocRo, odRo, .func (PySem.W.fnOf "of_units" "Road.of_units" (defArgs sROfUnits) (defBody sROfUnits) (defScope sROfUnits) .none kVRo dcRo pmRo anRo cdRo ctRo), slRo⟩)
    (cRo : PySem.W.codeIn K cdRo "Road.of_units" = true)
    (kRo : PySem.W.keepIn K (.ref fRo) = true)
    (fRo' : PySem.W.fnIn K fRo = true)
    (cr1 : PySem.W.readsIn K CR mc = true)
    (cr2 : PySem.W.specialIn K (.ref CR) "__getattribute__" = some (some (.builtin "type.__getattribute__")))
    (aRs : PySem.W.findIn K (.ref CR) "sections" = some (some (.ref pRs)))
    (gRs : PySem.W.specialIn K (.ref pRs) "__get__" = some (some (.builtin "property.__get__")))
    (tRs : PySem.W.takesIn K (.ref pRs) = some true)
    (rRs : PySem.W.recIn K pRs "property" = some (.ref fRs :: rRsL))
    (lRs : K.lookup fRs = some ⟨ocRs, odRs, .func (PySem.W.fnOf "sections" "Road.sections" (defArgs sRSections) (defBody sRSections) (defScope sRSections) .none kVRs dcRs pmRs anRs cdRs ctRs), slRs⟩)
    (cRs : PySem.W.codeIn K cdRs "Road.sections" = true)
    (kRs : PySem.W.keepIn K (.ref fRs) = true)
    (jDg : PySem.W.fnIn K fDg = true)
    (jDa : PySem.W.fnIn K fDa = true)
    (pgC : PySem.W.plainGet K C Str.empty = true)
    (hdC : PySem.W.hasDictIn K C = true)
    (poC : PySem.W.plainOver K C = true)
    (saC : PySem.W.findIn K (.ref C) "__setattr__" = some (some (.builtin "object.__setattr__")))
    (mkC : PySem.W.makesIn K C = true)
    (kcC : PySem.W.keepIn K (.ref C) = true)
    (pgR : PySem.W.plainGet K CR Str.empty = true)
    (hdR : PySem.W.hasDictIn K CR = true)
    (poR : PySem.W.plainOver K CR = true)
    (saR : PySem.W.findIn K (.ref CR) "__setattr__" = some (some (.builtin "object.__setattr__")))
    (mkR : PySem.W.makesIn K CR = true)
    (kcR : PySem.W.keepIn K (.ref CR) = true)
    (pgL : PySem.W.plainGet K CL Str.empty = true)
    (hdL : PySem.W.hasDictIn K CL = true)
    (poL : PySem.W.plainOver K CL = true)
    (saL : PySem.W.findIn K (.ref CL) "__setattr__" = some (some (.builtin "object.__setattr__")))
    (mkL : PySem.W.makesIn K CL = true)
    (kcL : PySem.W.keepIn K (.ref CL) = true)
    (nC_sections : PySem.W.findIn K (.ref C) "_sections" = some none)
    (nC_paces : PySem.W.findIn K (.ref C) "_paces" = some none)
    (nC_ticks : PySem.W.findIn K (.ref C) "_ticks" = some none)
    (nC_orders : PySem.W.findIn K (.ref C) "_orders" = some none)
    (nC_leaders : PySem.W.findIn K (.ref C) "_leaders" = some none)
    (nL_states : PySem.W.findIn K (.ref CL) "_states" = some none)
    (nL_undone : PySem.W.findIn K (.ref CL) "_undone" = some none)
    (nL_in_block : PySem.W.findIn K (.ref CL) "_in_block" = some none)
    (nL_kept_states : PySem.W.findIn K (.ref CL) "_kept_states" = some none)
    (nL_kept_undone : PySem.W.findIn K (.ref CL) "_kept_undone" = some none)
    (nR_sections : PySem.W.findIn K (.ref CR) "_sections" = some none)
    (nR_units : PySem.W.findIn K (.ref CR) "_units" = some none)
    (z_isinstance : PySem.W.nsIn K mainGlobals "isinstance" = some none)
    (z_int : PySem.W.nsIn K mainGlobals "int" = some none)
    (z_bool : PySem.W.nsIn K mainGlobals "bool" = some none)
    (z_str : PySem.W.nsIn K mainGlobals "str" = some none)
    (z_tuple : PySem.W.nsIn K mainGlobals "tuple" = some none)
    (z_len : PySem.W.nsIn K mainGlobals "len" = some none)
    (z_all : PySem.W.nsIn K mainGlobals "all" = some none)
    (z_enumerate : PySem.W.nsIn K mainGlobals "enumerate" = some none)
    (z_sorted : PySem.W.nsIn K mainGlobals "sorted" = some none)
    (z_list : PySem.W.nsIn K mainGlobals "list" = some none)
    (z_range : PySem.W.nsIn K mainGlobals "range" = some none)
    (z_sum : PySem.W.nsIn K mainGlobals "sum" = some none)
    (z_max : PySem.W.nsIn K mainGlobals "max" = some none)
    (z_min : PySem.W.nsIn K mainGlobals "min" = some none)
    (z_dict : PySem.W.nsIn K mainGlobals "dict" = some none)
    (z_ValueError : PySem.W.nsIn K mainGlobals "ValueError" = some none)
    (v0 : PySem.W.nsIn K mainGlobals "MOST_CARS" = some (some (.int 10 t0)))
    (v1 : PySem.W.nsIn K mainGlobals "LONGEST_NAME" = some (some (.int 8 t1)))
    (v2 : PySem.W.nsIn K mainGlobals "LATEST_START" = some (some (.int 1000000 t2)))
    (v3 : PySem.W.nsIn K mainGlobals "SLOWEST_PACE" = some (some (.int 60 t3)))
    (v4 : PySem.W.nsIn K mainGlobals "MOST_SECTIONS" = some (some (.int 12 t4)))
    (v5 : PySem.W.nsIn K mainGlobals "LONGEST_SECTION" = some (some (.int 99 t5)))
    (v6 : PySem.W.nsIn K mainGlobals "LATEST_TICK" = some (some (.int 1000000000 t6)))
    (aL : PySem.W.nsIn K mainGlobals "LETTERS" = some (some (.ref lp)))
    (aK : PySem.W.nsIn K mainGlobals "KINDS" = some (some (.ref kp)))
    (dlN : KDct K w lp "narrow" (.str "n"))
    (dlW : KDct K w lp "wide" (.str "w"))
    (dkN : KDct K w kp "n" (.str "narrow"))
    (dkW : KDct K w kp "w" (.str "wide"))
    (kM : (kp == sysModules) = false)
    (eE : PySem.W.nsIn K mainGlobals "RoadError" = some (some (.ref CE)))
    (e0 : PySem.W.nsIn K mainGlobals "InvalidOperation" = some (some (.ref c0)))
    (e1 : PySem.W.nsIn K mainGlobals "InvalidCars" = some (some (.ref c1)))
    (e2 : PySem.W.nsIn K mainGlobals "InvalidRoad" = some (some (.ref c2)))
    (e3 : PySem.W.nsIn K mainGlobals "InvalidArrivals" = some (some (.ref c3)))
    (e4 : PySem.W.nsIn K mainGlobals "UnknownSection" = some (some (.ref c4)))
    (e5 : PySem.W.nsIn K mainGlobals "DecodeError" = some (some (.ref c5)))
    (e6 : PySem.W.nsIn K mainGlobals "NotationError" = some (some (.ref c6)))
    (e7 : PySem.W.nsIn K mainGlobals "UnknownCar" = some (some (.ref c7)))
    (e8 : PySem.W.nsIn K mainGlobals "InvalidName" = some (some (.ref c8)))
    (e9 : PySem.W.nsIn K mainGlobals "InvalidNumber" = some (some (.ref c9)))
    (e10 : PySem.W.nsIn K mainGlobals "TooManyCars" = some (some (.ref c10)))
    (e11 : PySem.W.nsIn K mainGlobals "InvalidKind" = some (some (.ref c11)))
    (e12 : PySem.W.nsIn K mainGlobals "Contradiction" = some (some (.ref c12)))
    (e13 : PySem.W.nsIn K mainGlobals "InvalidCount" = some (some (.ref c13)))
    (dEs : PySem.W.subIn K (.ref CE) (.type "BaseException") = some true)
    (dEh : PySem.W.hasDictIn K CE = true)
    (dEt : PySem.W.typeIn K (.ref CE) = some (.type "type"))
    (d0c : PySem.W.isClsIn K c0 = true)
    (d0t : PySem.W.typeIn K (.ref c0) = some (.type "type"))
    (d1c : PySem.W.isClsIn K c1 = true)
    (d1t : PySem.W.typeIn K (.ref c1) = some (.type "type"))
    (d2c : PySem.W.isClsIn K c2 = true)
    (d2t : PySem.W.typeIn K (.ref c2) = some (.type "type"))
    (d3c : PySem.W.isClsIn K c3 = true)
    (d3t : PySem.W.typeIn K (.ref c3) = some (.type "type"))
    (d4c : PySem.W.isClsIn K c4 = true)
    (d4t : PySem.W.typeIn K (.ref c4) = some (.type "type"))
    (d5c : PySem.W.isClsIn K c5 = true)
    (d5t : PySem.W.typeIn K (.ref c5) = some (.type "type"))
    (d6c : PySem.W.isClsIn K c6 = true)
    (d6t : PySem.W.typeIn K (.ref c6) = some (.type "type"))
    (d7c : PySem.W.isClsIn K c7 = true)
    (d7t : PySem.W.typeIn K (.ref c7) = some (.type "type"))
    (d8c : PySem.W.isClsIn K c8 = true)
    (d8t : PySem.W.typeIn K (.ref c8) = some (.type "type"))
    (d9c : PySem.W.isClsIn K c9 = true)
    (d9t : PySem.W.typeIn K (.ref c9) = some (.type "type"))
    (d10c : PySem.W.isClsIn K c10 = true)
    (d10t : PySem.W.typeIn K (.ref c10) = some (.type "type"))
    (d11c : PySem.W.isClsIn K c11 = true)
    (d11t : PySem.W.typeIn K (.ref c11) = some (.type "type"))
    (d12c : PySem.W.isClsIn K c12 = true)
    (d12t : PySem.W.typeIn K (.ref c12) = some (.type "type"))
    (d13c : PySem.W.isClsIn K c13 = true)
    (d13t : PySem.W.typeIn K (.ref c13) = some (.type "type"))
    (r7cl : PySem.W.isClsIn K c7 = true)
    (r7ga : PySem.W.findIn K (.ref c7) "__getattribute__" = some (some (.builtin "BaseException.__getattribute__")))
    (r7gg : PySem.W.findIn K (.ref c7) "__getattr__" = some none)
    (r7sb : PySem.W.subIn K (.ref c7) (.type "BaseException") = some true)
    (r7hd : PySem.W.hasDictIn K c7 = true)
    (r7ct : PySem.W.findIn K (.ref c7) "__class__" = some (some (.builtin "object.__class__")))
    (r7mr : PySem.W.mroIn K c7 (.type "object") = some true)
    (r7ix : PySem.W.findIn K (.ref c7) "index" = some none)
    (r7nm : PySem.W.findIn K (.ref c7) "name" = some none)
    (r7xe : PySem.W.subIn K (.ref c7) (.ref CE) = some true)
    (r7kv : PySem.W.subIn K (.ref c7) (.type "ValueError") = some true)
    (r7k0 : PySem.W.subIn K (.ref c7) (.ref c0) = some false)
    (r7k1 : PySem.W.subIn K (.ref c7) (.ref c1) = some false)
    (r7k2 : PySem.W.subIn K (.ref c7) (.ref c2) = some false)
    (r7k3 : PySem.W.subIn K (.ref c7) (.ref c3) = some false)
    (r7k4 : PySem.W.subIn K (.ref c7) (.ref c4) = some false)
    (r7k5 : PySem.W.subIn K (.ref c7) (.ref c5) = some false)
    (r7k6 : PySem.W.subIn K (.ref c7) (.ref c6) = some false)
    (r7k7 : PySem.W.subIn K (.ref c7) (.ref c7) = some true)
    (r7k8 : PySem.W.subIn K (.ref c7) (.ref c8) = some false)
    (r7k9 : PySem.W.subIn K (.ref c7) (.ref c9) = some false)
    (r7k10 : PySem.W.subIn K (.ref c7) (.ref c10) = some false)
    (r7k11 : PySem.W.subIn K (.ref c7) (.ref c11) = some false)
    (r7k12 : PySem.W.subIn K (.ref c7) (.ref c12) = some false)
    (r7k13 : PySem.W.subIn K (.ref c7) (.ref c13) = some false)
    (r7of : PySem.W.findIn K (.ref c7) "offset" = some none)
    (r7rw : PySem.W.findIn K (.ref c7) "row" = some none)
    (r7wd : PySem.W.findIn K (.ref c7) "word" = some none)
    (r9cl : PySem.W.isClsIn K c9 = true)
    (r9ga : PySem.W.findIn K (.ref c9) "__getattribute__" = some (some (.builtin "BaseException.__getattribute__")))
    (r9gg : PySem.W.findIn K (.ref c9) "__getattr__" = some none)
    (r9sb : PySem.W.subIn K (.ref c9) (.type "BaseException") = some true)
    (r9hd : PySem.W.hasDictIn K c9 = true)
    (r9ct : PySem.W.findIn K (.ref c9) "__class__" = some (some (.builtin "object.__class__")))
    (r9mr : PySem.W.mroIn K c9 (.type "object") = some true)
    (r9ix : PySem.W.findIn K (.ref c9) "index" = some none)
    (r9nm : PySem.W.findIn K (.ref c9) "name" = some none)
    (r9xe : PySem.W.subIn K (.ref c9) (.ref CE) = some true)
    (r9kv : PySem.W.subIn K (.ref c9) (.type "ValueError") = some true)
    (r9k0 : PySem.W.subIn K (.ref c9) (.ref c0) = some false)
    (r9k1 : PySem.W.subIn K (.ref c9) (.ref c1) = some false)
    (r9k2 : PySem.W.subIn K (.ref c9) (.ref c2) = some false)
    (r9k3 : PySem.W.subIn K (.ref c9) (.ref c3) = some false)
    (r9k4 : PySem.W.subIn K (.ref c9) (.ref c4) = some false)
    (r9k5 : PySem.W.subIn K (.ref c9) (.ref c5) = some false)
    (r9k6 : PySem.W.subIn K (.ref c9) (.ref c6) = some false)
    (r9k7 : PySem.W.subIn K (.ref c9) (.ref c7) = some false)
    (r9k8 : PySem.W.subIn K (.ref c9) (.ref c8) = some false)
    (r9k9 : PySem.W.subIn K (.ref c9) (.ref c9) = some true)
    (r9k10 : PySem.W.subIn K (.ref c9) (.ref c10) = some false)
    (r9k11 : PySem.W.subIn K (.ref c9) (.ref c11) = some false)
    (r9k12 : PySem.W.subIn K (.ref c9) (.ref c12) = some false)
    (r9k13 : PySem.W.subIn K (.ref c9) (.ref c13) = some false)
    (r9of : PySem.W.findIn K (.ref c9) "offset" = some none)
    (r9rw : PySem.W.findIn K (.ref c9) "row" = some none)
    (r9wd : PySem.W.findIn K (.ref c9) "word" = some none)
    (r0sb : PySem.W.subIn K (.ref c0) (.type "BaseException") = some true)
    (r0ix : PySem.W.findIn K (.ref c0) "index" = some none)
    (r8sb : PySem.W.subIn K (.ref c8) (.type "BaseException") = some true)
    (r10sb : PySem.W.subIn K (.ref c10) (.type "BaseException") = some true)
    (xU : K.lookup c7 = some (PySem.excClassObj nmU qU c7 NU bsU [.ref CE, .type "ValueError", .type "Exception", .type "BaseException", .type "object"] true snU subU abU colU ddU u0U u1U u2U u3U u5U "ValueError.__new__"))
    (saU : PySem.W.findIn K (.ref c7) "__setattr__" = some (some (.builtin "object.__setattr__")))
    (kU : PySem.W.keepIn K (.ref c7) = true)
    (aUi : PySem.W.findIn K (.ref c7) "__init__" = some (some (.ref fUi)))
    (tUi : PySem.W.typeIn K (.ref fUi) = some (.type "function"))
    (lUi : K.lookup fUi = some ⟨ocUi, odUi, .func (PySem.W.fnOf "__init__" "UnknownCar.__init__" (defArgs sUnknownCarInit) (defBody sUnknownCarInit) (defScope sUnknownCarInit) .none kVUi dcUi pmUi anUi cdUi ctUi), slUi⟩)
    (cUi : PySem.W.codeIn K cdUi "UnknownCar.__init__" = true)
    (kUi : PySem.W.keepIn K (.ref fUi) = true)
    (xO : K.lookup c0 = some (PySem.excClassObj nmO qO c0 NO bsO [.ref CE, .type "ValueError", .type "Exception", .type "BaseException", .type "object"] true snO subO abO colO ddO u0O u1O u2O u3O u5O "ValueError.__new__"))
    (saO : PySem.W.findIn K (.ref c0) "__setattr__" = some (some (.builtin "object.__setattr__")))
    (kO : PySem.W.keepIn K (.ref c0) = true)
    (aOi : PySem.W.findIn K (.ref c0) "__init__" = some (some (.ref fOi)))
    (tOi : PySem.W.typeIn K (.ref fOi) = some (.type "function"))
    (lOi : K.lookup fOi = some ⟨ocOi, odOi, .func (PySem.W.fnOf "__init__" "InvalidOperation.__init__" (defArgs sInvalidOperationInit) (defBody sInvalidOperationInit) (defScope sInvalidOperationInit) .none kVOi dcOi pmOi anOi cdOi ctOi), slOi⟩)
    (cOi : PySem.W.codeIn K cdOi "InvalidOperation.__init__" = true)
    (kOi : PySem.W.keepIn K (.ref fOi) = true)
    (n8q : PySem.W.excIn K c8 [.type "ValueError", .type "Exception", .type "BaseException", .type "object"] "ValueError.__new__" = true)
    (n8k : PySem.W.keepIn K (.ref c8) = true)
    (n9q : PySem.W.excIn K c9 [.type "ValueError", .type "Exception", .type "BaseException", .type "object"] "ValueError.__new__" = true)
    (n9k : PySem.W.keepIn K (.ref c9) = true)
    (n10q : PySem.W.excIn K c10 [.type "ValueError", .type "Exception", .type "BaseException", .type "object"] "ValueError.__new__" = true)
    (n10k : PySem.W.keepIn K (.ref c10) = true)
    (qhn : PySem.W.specialIn K (.builtin "object.__class__") "__get__" = some (some (.builtin "getset_descriptor.__get__")))
    (qht : PySem.W.takesIn K (.builtin "object.__class__") = some true)
    (oA : PySem.W.nsIn K mainGlobals "ACTIONS" = some (some (.ref ap)))
    (oG : PySem.W.nsIn K mainGlobals "ARGUMENTS" = some (some (.ref gp)))
    (oJa : KDct K w ap "join" (.ref fjo))
    (oRa : KDct K w ap "remove" (.ref fre))
    (oSa : KDct K w ap "set_kind" (.ref fsk))
    (oJg : KDct K w gp "join" (.int 3))
    (oRg : KDct K w gp "remove" (.int 1))
    (oSg : KDct K w gp "set_kind" (.int 2))
    (oM : (gp == sysModules) = false)
    (gGcd : PySem.W.nsIn K mainGlobals "gcd" = some (some (.builtin "math.gcd")))
    (neP01 : Pio ≠ Pla)
    (hT : ∀ P ∈ [Pio, Pla], h.get? P = some { cls := .none, data := .fields #[] }) : LamX.LawAtS l w K CX0 15 63 "_law_script" mg fa h := by
  have e := hfa.symm.trans (PySem.W.mg_of X G ala)
  cases e
  have M : Mg mg := ⟨PySem.W.mg_none_of X G z_isinstance, PySem.W.mg_none_of X G z_int, PySem.W.mg_none_of X G z_bool, PySem.W.mg_none_of X G z_str, PySem.W.mg_none_of X G z_tuple, PySem.W.mg_none_of X G z_len, PySem.W.mg_none_of X G z_all, PySem.W.mg_none_of X G z_enumerate, PySem.W.mg_none_of X G z_sorted, PySem.W.mg_none_of X G z_list, PySem.W.mg_none_of X G z_range, PySem.W.mg_none_of X G z_sum, ⟨_, PySem.W.mg_of X G v0⟩, ⟨_, PySem.W.mg_of X G v1⟩, ⟨_, PySem.W.mg_of X G v2⟩, ⟨_, PySem.W.mg_of X G v3⟩, ⟨_, PySem.W.mg_of X G v4⟩, ⟨_, PySem.W.mg_of X G v5⟩⟩
  have R : DriveT K mg C := ⟨⟨pgC, hdC, poC, saC⟩, nC_sections, nC_paces, nC_ticks, nC_orders, nC_leaders, PySem.W.mg_of X G aC⟩
  have RR : RoadT K w mg CR lp kp := ⟨⟨pgR, hdR, poR, saR⟩, nR_sections, nR_units, PySem.W.mg_of X G aR, PySem.W.mg_of X G aL, PySem.W.mg_of X G aK, dlN, dlW, dkN, dkW, kM⟩
  have Fin := fun_mk (st := sIsNumber) lin cin kin
  have Bin : Fb K mg "is_number" sIsNumber ["value", "least", "most"] fin _ := ⟨Fin, PySem.W.mg_of X G ain, Fin.binds (ps := ["value", "least", "most"]) fun _ _ _ _ _ _ us hl => match us, hl with | [_, _, _], _ => rfl⟩
  have Fnm := fun_mk (st := sIsName) lnm cnm knm
  have Bnm : Fb K mg "is_name" sIsName ["value"] fnm _ := ⟨Fnm, PySem.W.mg_of X G anm, Fnm.binds (ps := ["value"]) fun _ _ _ _ _ _ us hl => match us, hl with | [_], _ => rfl⟩
  have Fic := fun_mk (st := sIsCar) lic cic kic
  have Bic : Fb K mg "is_car" sIsCar ["value"] fic _ := ⟨Fic, PySem.W.mg_of X G aic, Fic.binds (ps := ["value"]) fun _ _ _ _ _ _ us hl => match us, hl with | [_], _ => rfl⟩
  have Fcc := fun_mk (st := sCheckCars) lcc ccc kcc
  have Bcc : Fb K mg "check_cars" sCheckCars ["cars"] fcc _ := ⟨Fcc, PySem.W.mg_of X G acc, Fcc.binds (ps := ["cars"]) fun _ _ _ _ _ _ us hl => match us, hl with | [_], _ => rfl⟩
  have Fkn := fun_mk (st := sCheckKnown) lkn ckn kkn
  have Bkn : Fb K mg "check_known" sCheckKnown ["cars", "name"] fkn _ := ⟨Fkn, PySem.W.mg_of X G akn, Fkn.binds (ps := ["cars", "name"]) fun _ _ _ _ _ _ us hl => match us, hl with | [_, _], _ => rfl⟩
  have Fcw := fun_mk (st := sCheckNewName) lcw ccw kcw
  have Bcw : Fb K mg "check_new_name" sCheckNewName ["cars", "name"] fcw _ := ⟨Fcw, PySem.W.mg_of X G acw, Fcw.binds (ps := ["cars", "name"]) fun _ _ _ _ _ _ us hl => match us, hl with | [_, _], _ => rfl⟩
  have Bio : FbC K mg "_in_order" sInOrder ["names", "ticks"] fio _ ccio := ⟨⟨⟨_, _, _, _, _, _, _, _, rfl, lio, cio⟩, kio⟩, PySem.W.mg_of X G aio, .all fun us hl => match us, hl with | [_, _], _ => rfl⟩
  have Ffo := fun_mk (st := sFollow) lfo cfo kfo
  have Bfo : Fb K mg "_follow" sFollow ["order", "free"] ffo _ := ⟨Ffo, PySem.W.mg_of X G afo, Ffo.binds (ps := ["order", "free"]) fun _ _ _ _ _ _ us hl => match us, hl with | [_, _], _ => rfl⟩
  have Fdv := fun_mk (st := sDriveAll) ldv cdv kdv
  have Bdv : Fb K mg "drive_all" sDriveAll ["sections", "starts", "paces"] fdv _ := ⟨Fdv, PySem.W.mg_of X G adv, Fdv.binds (ps := ["sections", "starts", "paces"]) fun _ _ _ _ _ _ us hl => match us, hl with | [_, _, _], _ => rfl⟩
  have Fis := fun_mk (st := sIsSection) lis cis kis
  have Bis : Fb K mg "_is_section" sIsSection ["value"] fis _ := ⟨Fis, PySem.W.mg_of X G ais, Fis.binds (ps := ["value"]) fun _ _ _ _ _ _ us hl => match us, hl with | [_], _ => rfl⟩
  have Fuo := fun_mk (st := sUnitsOf) luo cuo kuo
  have Buo : Fb K mg "_units_of" sUnitsOf ["sections"] fuo _ := ⟨Fuo, PySem.W.mg_of X G auo, Fuo.binds (ps := ["sections"]) fun _ _ _ _ _ _ us hl => match us, hl with | [_], _ => rfl⟩
  have Fru := fun_mk (st := sRuns) lru cru kru
  have Bru : Fb K mg "_runs" sRuns ["units"] fru _ := ⟨Fru, PySem.W.mg_of X G aru, Fru.binds (ps := ["units"]) fun _ _ _ _ _ _ us hl => match us, hl with | [_], _ => rfl⟩
  have Fai := fun_mk (st := sArrivals) lai cai kai
  have Bai : Fb K mg "_arrivals" sArrivals ["road", "cars"] fai _ := ⟨Fai, PySem.W.mg_of X G aai, Fai.binds (ps := ["road", "cars"]) fun _ _ _ _ _ _ us hl => match us, hl with | [_, _], _ => rfl⟩
  have Fch := fun_mk (st := sChanges) lch cch kch
  have Bch : Fb K mg "_changes" sChanges ["before", "after"] fch _ := ⟨Fch, PySem.W.mg_of X G ach, Fch.binds (ps := ["before", "after"]) fun _ _ _ _ _ _ us hl => match us, hl with | [_, _], _ => rfl⟩
  have Fjo := fun_mk (st := sJoin) ljo cjo kjo
  have Bjo : Fb K mg "_join" sJoin ["road", "cars", "name", "start", "pace"] fjo _ := ⟨Fjo, PySem.W.mg_of X G ajo, Fjo.binds (ps := ["road", "cars", "name", "start", "pace"]) fun _ _ _ _ _ _ us hl => match us, hl with | [_, _, _, _, _], _ => rfl⟩
  have Fre := fun_mk (st := sRemove) lre cre kre
  have Bre : Fb K mg "_remove" sRemove ["road", "cars", "name"] fre _ := ⟨Fre, PySem.W.mg_of X G are, Fre.binds (ps := ["road", "cars", "name"]) fun _ _ _ _ _ _ us hl => match us, hl with | [_, _, _], _ => rfl⟩
  have Fsk := fun_mk (st := sSetKind) lsk csk ksk
  have Bsk : Fb K mg "_set_kind" sSetKind ["road", "cars", "section", "kind"] fsk _ := ⟨Fsk, PySem.W.mg_of X G ask, Fsk.binds (ps := ["road", "cars", "section", "kind"]) fun _ _ _ _ _ _ us hl => match us, hl with | [_, _, _, _], _ => rfl⟩
  have Fop := fun_mk (st := sIsOperation) lop cop kop
  have Bop : Fb K mg "_is_operation" sIsOperation ["value"] fop _ := ⟨Fop, PySem.W.mg_of X G aop, Fop.binds (ps := ["value"]) fun _ _ _ _ _ _ us hl => match us, hl with | [_], _ => rfl⟩
  have Fex := fun_mk (st := sExecute) lex cex kex
  have Bex : Fb K mg "_execute" sExecute ["states", "operations"] fex _ := ⟨Fex, PySem.W.mg_of X G aex, Fex.binds (ps := ["states", "operations"]) fun _ _ _ _ _ _ us hl => match us, hl with | [_, _], _ => rfl⟩
  have Fpa := fun_mk (st := sPositionAt) lpa cpa kpa
  have Bpa : Fb K mg "position_at" sPositionAt ["road", "cars", "name", "tick"] fpa _ := ⟨Fpa, PySem.W.mg_of X G apa, Fpa.binds (ps := ["road", "cars", "name", "tick"]) fun _ _ _ _ _ _ us hl => match us, hl with | [_, _, _, _], _ => rfl⟩
  have Fle := fun_mk (st := sLeast) lle cle kle
  have Ble : Fb K mg "_least" sLeast ["fractions"] fle _ := ⟨Fle, PySem.W.mg_of X G ale, Fle.binds (ps := ["fractions"]) fun _ _ _ _ _ _ us hl => match us, hl with | [_], _ => rfl⟩
  have Fah := fun_mk (st := sAheadInside) lah cah kah
  have Bah : Fb K mg "_ahead_inside" sAheadInside ["drive", "section", "name", "tick"] fah _ := ⟨Fah, PySem.W.mg_of X G aah, Fah.binds (ps := ["drive", "section", "name", "tick"]) fun _ _ _ _ _ _ us hl => match us, hl with | [_, _, _, _], _ => rfl⟩
  have Fta := fun_mk (st := sTaken) lta cta kta
  have Bta : Fb K mg "_law_taken" sTaken ["_law_row", "_law_many"] fta _ := ⟨Fta, PySem.W.mg_of X G ata, Fta.binds (ps := ["_law_row", "_law_many"]) fun _ _ _ _ _ _ us hl => match us, hl with | [_, _], _ => rfl⟩
  have Fal := fun_mk (st := sAlike) lal cal kal
  have Bal : Fb K mg "_law_alike" sAlike ["_law_one", "_law_due"] fal _ := ⟨Fal, PySem.W.mg_of X G aal, Fal.binds (ps := ["_law_one", "_law_due"]) fun _ _ _ _ _ _ us hl => match us, hl with | [_, _], _ => rfl⟩
  have Fto := fun_mk (st := sRaised) lto cto kto
  have Bto : Fb K mg "_law_raised" sRaised ["_law_work"] fto _ := ⟨Fto, PySem.W.mg_of X G ato, Fto.binds (ps := ["_law_work"]) fun _ _ _ _ _ _ us hl => match us, hl with | [_], _ => rfl⟩
  have Fse := fun_mk (st := sSections) lse cse kse
  have Bse : Fb K mg "_law_sections" sSections ["_law_row", "_law_most"] fse _ := ⟨Fse, PySem.W.mg_of X G ase, Fse.binds (ps := ["_law_row", "_law_most"]) fun _ _ _ _ _ _ us hl => match us, hl with | [_, _], _ => rfl⟩
  have Frd := fun_mk (st := sLRoad) lrd crd krd
  have Brd : Fb K mg "_law_road" sLRoad ["_law_sections_here"] frd _ := ⟨Frd, PySem.W.mg_of X G ard, Frd.binds (ps := ["_law_sections_here"]) fun _ _ _ _ _ _ us hl => match us, hl with | [_], _ => rfl⟩
  have Fjn := fun_mk (st := sJoined) ljn cjn kjn
  have Bjn : Fb K mg "_law_joined" sJoined ["_law_sections_here"] fjn _ := ⟨Fjn, PySem.W.mg_of X G ajn, Fjn.binds (ps := ["_law_sections_here"]) fun _ _ _ _ _ _ us hl => match us, hl with | [_], _ => rfl⟩
  have Fca := fun_mk (st := sCars) lca cca kca
  have Bca : Fb K mg "_law_cars" sCars ["_law_row", "_law_most"] fca _ := ⟨Fca, PySem.W.mg_of X G aca, Fca.binds (ps := ["_law_row", "_law_most"]) fun _ _ _ _ _ _ us hl => match us, hl with | [_, _], _ => rfl⟩
  have Fld := fun_mk (st := sLDrive) lld cld kld
  have Bld : Fb K mg "_law_drive" sLDrive ["_law_sections_here", "_law_cars_here"] fld _ := ⟨Fld, PySem.W.mg_of X G ald, Fld.binds (ps := ["_law_sections_here", "_law_cars_here"]) fun _ _ _ _ _ _ us hl => match us, hl with | [_, _], _ => rfl⟩
  have Fvi := fun_mk (st := sDivisor) lvi cvi kvi
  have Bvi : Fb K mg "_law_divisor" sDivisor ["_law_one", "_law_other"] fvi _ := ⟨Fvi, PySem.W.mg_of X G avi, Fvi.binds (ps := ["_law_one", "_law_other"]) fun _ _ _ _ _ _ us hl => match us, hl with | [_, _], _ => rfl⟩
  have Fps := fun_mk (st := sPosition) lps cps kps
  have Bps : Fb K mg "_law_position" sPosition ["_law_sections_here", "_law_cars_here", "_law_drive_here", "_law_name", "_law_tick"] fps _ := ⟨Fps, PySem.W.mg_of X G aps, Fps.binds (ps := ["_law_sections_here", "_law_cars_here", "_law_drive_here", "_law_name", "_law_tick"]) fun _ _ _ _ _ _ us hl => match us, hl with | [_, _, _, _, _], _ => rfl⟩
  have Fla : FunC K "law" "law" sLaw _ _ ccla := ⟨⟨_, _, _, _, _, _, _, _, rfl, lla, cla⟩, kla⟩
  have FDi := fun_mk (st := sDInit) lDi cDi kDi
  have bDi := FDi.binds (ps := ["self", "road", "cars"]) fun _ _ _ _ _ _ us hl => match us, hl with | [_, _, _], _ => rfl
  have FDc := fun_mk (st := sDCheckCar) lDc cDc kDc
  have bDc := FDc.binds (ps := ["self", "name"]) fun _ _ _ _ _ _ us hl => match us, hl with | [_, _], _ => rfl
  have FDp := fun_mk (st := sDCheckPlace) lDp cDp kDp
  have bDp := FDp.binds (ps := ["self", "place"]) fun _ _ _ _ _ _ us hl => match us, hl with | [_, _], _ => rfl
  have FDo := fun_mk (st := sDOrderAt) lDo cDo kDo
  have bDo := FDo.binds (ps := ["self", "place"]) fun _ _ _ _ _ _ us hl => match us, hl with | [_, _], _ => rfl
  have FDg := fun_mk (st := sDGet) lDg cDg kDg
  have bDg := FDg.binds (ps := ["self", "at"]) fun _ _ _ _ _ _ us hl => match us, hl with | [_, _], _ => rfl
  have FDa : FunD K "__call__" "Drive.__call__" (defArgs sDCall) (defBody sDCall) (defScope sDCall) [.non] [] fDa _ := ⟨⟨_, _, _, _, _, _, _, _, _, _, rfl, lDa, cDa, .inr ⟨by simp, Td, _, [Value.none], nT, rfl, lT, rfl, .cons rfl .nil⟩, .inl rfl⟩, kDa⟩
  obtain ⟨ds0, v0, bDa0⟩ := FDa.binds1 (ps := ["self", "name", "place"]) 3 1 (by simp) rfl (fun T kV doc pm an cdv ct us its hl hi => match us, hl, its, hi with | [_, _, _], _, [_], _ => ⟨_, rfl, rfl⟩)
  have e0 : ds0 = [] := by cases v0; rfl
  subst e0
  obtain ⟨dsDa, vDa, bDa1⟩ := FDa.binds1 (ps := ["self", "name", "place"]) 2 0 (by simp) rfl (fun T kV doc pm an cdv ct us its hl hi => match us, hl, its, hi with | [_, _], _, [_], _ => ⟨_, rfl, rfl⟩)
  have FDh := fun_mk (st := sDHas) lDh cDh kDh
  have bDh := FDh.binds (ps := ["self", "x"]) fun _ _ _ _ _ _ us hl => match us, hl with | [_, _], _ => rfl
  have FRi := fun_mk (st := sRInit) lRi cRi kRi
  have FLi := fun_mk (st := sLiveRoadInit) lLi cLi kLi
  have bLi := FLi.binds (ps := ["self", "road"]) fun _ _ _ _ _ _ us hl => match us, hl with | [_, _], _ => rfl
  have FLj := fun_mk (st := sLiveRoadJoin) lLj cLj kLj
  have bLj := FLj.binds (ps := ["self", "name", "start", "pace"]) fun _ _ _ _ _ _ us hl => match us, hl with | [_, _, _, _], _ => rfl
  have FLp := fun_mk (st := sLiveRoadApply) lLp cLp kLp
  have FLq := fun_mk (st := sLiveRoadPosition) lLq cLq kLq
  have bLq := FLq.binds (ps := ["self", "name", "tick"]) fun _ _ _ _ _ _ us hl => match us, hl with | [_, _, _], _ => rfl
  have FRo := fun_mk (st := sROfUnits) lRo cRo kRo
  have bRo := FRo.binds (ps := ["cls", "units"]) fun _ _ _ _ _ _ us hl => match us, hl with | [_, _], _ => rfl
  have FRs := fun_mk (st := sRSections) lRs cRs kRs
  have bRs := FRs.binds (ps := ["self"]) fun _ _ _ _ _ _ us hl => match us, hl with | [_], _ => rfl
  have MDi : Fm K C "__init__" "Drive.__init__" sDInit ["self", "road", "cars"] fDi _ := ⟨FDi, ⟨aDi, iDi, kDi⟩, bDi⟩
  have MDc : Fm K C "_check_car" "Drive._check_car" sDCheckCar ["self", "name"] fDc _ := ⟨FDc, ⟨aDc, iDc, kDc⟩, bDc⟩
  have MDp : Fm K C "_check_place" "Drive._check_place" sDCheckPlace ["self", "place"] fDp _ := ⟨FDp, ⟨aDp, iDp, kDp⟩, bDp⟩
  have MDo : Fm K C "order_at" "Drive.order_at" sDOrderAt ["self", "place"] fDo _ := ⟨FDo, ⟨aDo, iDo, kDo⟩, bDo⟩
  have MLj : Fm K CL "join" "LiveRoad.join" sLiveRoadJoin ["self", "name", "start", "pace"] fLj _ := ⟨FLj, ⟨aLj, iLj, kLj⟩, bLj⟩
  have MLq : Fm K CL "position" "LiveRoad.position" sLiveRoadPosition ["self", "name", "tick"] fLq _ := ⟨FLq, ⟨aLq, iLq, kLq⟩, bLq⟩
  have C3 : Cls K CL := ⟨pgL, hdL, poL, saL⟩
  have MI3 : Mk K CL fLi := ⟨mkL, aLi, iLi, kcL⟩
  let T : List (Addr × Str) := [(Pio, qInOrder), (Pla, qLaw)]
  have mio : (Pio, qInOrder) ∈ T := by simp [T]
  have mla : (Pla, qLaw) ∈ T := by simp [T]
  have uio : ∀ p ∈ T, p.1 = Pio → p.2 = qInOrder := fun p hp e => by
    rcases List.mem_cons.mp hp with z | hp
    · rw [z]
    · skip
      rw [(List.mem_singleton.mp hp)] at e
      exact absurd e.symm neP01
  have ula : ∀ p ∈ T, p.1 = Pla → p.2 = qLaw := fun p hp e => by
    rcases List.mem_cons.mp hp with z | hp
    · rw [z] at e
      exact absurd e neP01
    · skip
      rw [(List.mem_singleton.mp hp)]
  have PORs : PropOf K CR "sections" pRs fRs := ⟨aRs, gRs, tRs, _, rRs⟩
  have MI : Mk K C fDi := ⟨mkC, aDi, iDi, kcC⟩
  have MR : Mk K CR fRi := ⟨mkR, aRi, iRi, kcR⟩
  have Cio : PySem.W.CodeHd h ccio Pio := PySem.W.codeHd_of_K X hio
  have Cla : PySem.W.CodeHd h ccla Pla := PySem.W.codeHd_of_K X hla
  refine ⟨PySem.W.fnOf "law" "law" (defArgs sLaw) (defBody sLaw) (defScope sLaw) .none kVla dcla pmla anla (.ref ccla) ctla, [(ccio, Pio), (ccla, Pla)], spLaw K T, fun p hp => hT p.2 ?_, fun p hp => ?_, fun p hp => ?_, fun s v => .of_eq rfl, fun H a ns _ _ hH hS => ⟨a, ns, rfl, hS, fun p hp => ?_, fun _ => rfl⟩, fun base hK hNs hTB => ?_⟩
  · skip
    rcases List.mem_cons.mp hp with z | hp
    · rw [z]; simp
    · skip
      rw [(List.mem_singleton.mp hp)]; simp
  · skip
    rcases List.mem_cons.mp hp with z | hp
    · rw [z]; exact nio
    · skip
      rw [(List.mem_singleton.mp hp)]; exact nla
  · skip
    rcases List.mem_cons.mp hp with z | hp
    · rw [z]; exact Cio
    · skip
      rw [(List.mem_singleton.mp hp)]; exact Cla
  · skip
    rcases List.mem_cons.mp hp with z | hp
    · rw [z]; exact tabS0 (hH (ccio, Pio) (by simp))
    · skip
      rw [(List.mem_singleton.mp hp)]; exact tabS0 (hH (ccla, Pla) (by simp))
  have TBio : TabB base mg ccio Pio := hTB (ccio, Pio) (by simp)
  have TBla : TabB base mg ccla Pla := hTB (ccla, Pla) (by simp)
  have Gin := ok_isNumber (P := l.prog) (w := w) (base := base) Fin M
  have GinV := ok_isNumV (P := l.prog) (w := w) (base := base) Fin M
  have Gnm := ok_isName (P := l.prog) (w := w) (base := base) Fnm M
  have Gic := ok_isCar (P := l.prog) (w := w) (base := base) Bic M Bnm Bin Gnm Gin
  have Gcc := ok_checkCars (P := l.prog) (w := w) (base := base) Bcc M Bic Gic
  have Gio := ok_inOrder (P := l.prog) (w := w) (base := base) Bio M TBio mio uio
  have Gfo := ok_follow (P := l.prog) (w := w) (base := base) Bfo
  have Gis := ok_isSection (P := l.prog) (w := w) (base := base) Bis M Bin Gin
  have Gru := ok_runs (P := l.prog) (w := w) (base := base) Bru RR
  have Guo := ok_unitsOf (P := l.prog) (w := w) (base := base) Buo RR
  have GRi := ok_rInit (P := l.prog) (w := w) (base := base) FRi M RR Bis Gis Buo Guo
  have GRo := ok_ofUnits (P := l.prog) (w := w) (base := base) FRo M RR MR Bru Gru GRi
  have GRs := ok_rSections (P := l.prog) (w := w) (base := base) FRs RR
  have Gdv := ok_driveAll (P := l.prog) (w := w) (base := base) (Pt:=Pio) Fdv M Bio Bfo Gio Gfo
  have GDi := ok_dInit (P := l.prog) (w := w) (base := base) MDi M R RR Bcc Bdv PORs bRs Gcc Gdv GRs
  have GDh := ok_has (P := l.prog) (w := w) (base := base) FDh M R
  have GDc := ok_checkCar (P := l.prog) (w := w) (base := base) MDc aDh iDh bDh GDh
  have GDp := ok_checkPlace (P := l.prog) (w := w) (base := base) MDp M R Bin Gin
  have GDo := ok_orderAt (P := l.prog) (w := w) (base := base) MDo M R MDp GDp
  have GDg := ok_get (P := l.prog) (w := w) (base := base) FDg M R MDc GDc
  have GDa := ok_callD (P := l.prog) (w := w) (base := base) FDa M R MDc GDc MDp GDp
  have LT : LivT K CL := ⟨C3, nL_states, nL_undone, nL_in_block, nL_kept_states, nL_kept_undone⟩
  have OCU : OexC K c7 := ⟨⟨_, _, _, _, _, _, _, _, _, _, _, _, _, _, _, xU, rfl⟩, saU, r7sb, d7t, kU⟩
  have FUi := fun_mk (st := sUnknownCarInit) lUi cUi kUi
  have bUi := FUi.binds (ps := ["self", "name"]) fun _ _ _ _ _ _ us hl => match us, hl with | [_, _], _ => rfl
  have GUi := ok_uInit (P := l.prog) (w := w) (base := base) (mg := mg) FUi OCU r7nm
  have EU : ErrO l.prog w K mg base "UnknownCar" c7 := ⟨OCU, PySem.W.mg_of X G e7, ⟨_, _, _, aUi, tUi, bUi, GUi⟩⟩
  have OCO : OexC K c0 := ⟨⟨_, _, _, _, _, _, _, _, _, _, _, _, _, _, _, xO, rfl⟩, saO, r0sb, d0t, kO⟩
  have FOi := fun_mk (st := sInvalidOperationInit) lOi cOi kOi
  have bOi := FOi.binds (ps := ["self", "index"]) fun _ _ _ _ _ _ us hl => match us, hl with | [_, _], _ => rfl
  have GOi := ok_oInit (P := l.prog) (w := w) (base := base) (mg := mg) FOi OCO r0ix
  have EO : ErrF l.prog w K mg base "InvalidOperation" "index" c0 := ⟨OCO, PySem.W.mg_of X G e0, ⟨_, _, _, aOi, tOi, bOi, GOi⟩⟩
  have EN : ErrT K mg "InvalidName" c8 := ⟨n8q, PySem.W.mg_of X G e8, n8k, r8sb, d8t⟩
  have EM : ErrT K mg "TooManyCars" c10 := ⟨n10q, PySem.W.mg_of X G e10, n10k, r10sb, d10t⟩
  have E9 : ErrT K mg "InvalidNumber" c9 := ⟨n9q, PySem.W.mg_of X G e9, n9k, r9sb, d9t⟩
  have GknX := ok_knownX (P := l.prog) (w := w) (base := base) Fkn EU
  have GknV := ok_knownV (P := l.prog) (w := w) (base := base) Fkn EU
  have GcwX := ok_newNameX (P := l.prog) (w := w) (base := base) Fcw EN Bnm Gnm
  have Gai := ok_arrs (P := l.prog) (w := w) (base := base) Fai R MI bDi GDi ⟨aDa, iDa, jDa⟩ bDa1 vDa GDa
  have Gch := ok_changes (P := l.prog) (w := w) (base := base) (mg := mg) Fch
  have Gjo := ok_join (P := l.prog) (w := w) (base := base) (CU := c7) Fjo M EM Bcw GcwX Bin Gin Bai Gai
  have Gre := ok_remove (P := l.prog) (w := w) (base := base) (CNm := c8) (CMy := c10) Fre M Bkn GknX Bai Gai Bch Gch
  have Gsk := ok_setK (P := l.prog) (w := w) (base := base) (CNm := c8) (CMy := c10) (CU := c7) Fsk M RR Bin Gin MR GRi PORs bRs GRs Bai Gai Bch Gch
  have O : OpT K w mg ap gp fjo fre fsk := ⟨PySem.W.mg_of X G oA, PySem.W.mg_of X G oG, oJa, oRa, oSa, oJg, oRg, oSg, oM⟩
  have Gop := ok_isOp (P := l.prog) (w := w) (base := base) Fop M O
  have Gex := ok_exec (P := l.prog) (w := w) (base := base) Fex M O EO Bop Gop Bjo Gjo Bre Gre Bsk Gsk
  have GLi := ok_lInit (P := l.prog) (w := w) (base := base) (CR := CR) (mg := mg) FLi LT
  have GLp := ok_apply (P := l.prog) (w := w) (base := base) FLp LT Bex Gex
  have GLj := ok_mJoin (P := l.prog) (w := w) (base := base) FLj LT ⟨aLp, iLp, kLp⟩ GLp
  have Gle := ok_least (P := l.prog) (w := w) (base := base) (mg := mg) Fle
  have Gah := ok_ahead (P := l.prog) (w := w) (base := base) Fah R MDo GDo ⟨aDa, iDa, jDa⟩ bDa0 GDa
  have Gpa := ok_posAt (P := l.prog) (w := w) (base := base) Fpa M R RR (PySem.W.mg_of X G gGcd) MI bDi GDi PORs bRs GRs aDg iDg jDg bDg GDg Bah Gah Ble Gle ⟨aDa, iDa, jDa⟩ bDa0 GDa
  have GLq := ok_lPos (P := l.prog) (w := w) (base := base) FLq M LT E9 (PySem.W.mg_of X G v6) Bkn GknV Bin GinV Bpa Gpa
  have Gta := ok_taken (P := l.prog) (w := w) (base := base) Fta M
  have Gal := ok_alike (P := l.prog) (w := w) (base := base) Bal M 1
  have Gse := ok_sectC (P := l.prog) (w := w) (base := base) Fse M Bta Gta
  have Gjn := ok_joined (P := l.prog) (w := w) (base := base) Fjn M (PySem.W.mg_none_of X G z_min)
  have Gca := ok_carsC (P := l.prog) (w := w) (base := base) Fca M Bta Gta
  have Grd := ok_roadC (P := l.prog) (w := w) (base := base) Frd RR ⟨cr1, cr2⟩ ⟨aRo, ⟨_, rRo⟩, fRo'⟩ bRo GRo
  have Gld := ok_driveC (P := l.prog) (w := w) (base := base) Fld M (PySem.W.mg_none_of X G z_dict) (PySem.W.mg_none_of X G z_max)
  have Gvi := ok_divisor (P := l.prog) (w := w) (base := base) Fvi M
  have Gps := ok_lawPos (P := l.prog) (w := w) (base := base) Fps M (PySem.W.mg_none_of X G z_dict) Bvi Gvi
  have WT : Teller K mg "_law_raised" "_law_work" fto nRaised (defBody sRaised) (defScope sRaised) cdto := ⟨PySem.W.mg_of X G ato, kto, ⟨_, _, _, _, _, _, _, _, _, _, lto, Bto.bd⟩, cto, scRaised, rfl, .inl rfl⟩
  exact ok_law Fla TBla mla ula ⟨M, (PySem.W.mg_none_of X G z_max), LT, ⟨PySem.W.mg_of X G eE, PySem.W.mg_of X G e0, PySem.W.mg_of X G e1, PySem.W.mg_of X G e2, PySem.W.mg_of X G e3, PySem.W.mg_of X G e4, PySem.W.mg_of X G e5, PySem.W.mg_of X G e6, PySem.W.mg_of X G e7, PySem.W.mg_of X G e8, PySem.W.mg_of X G e9, PySem.W.mg_of X G e10, PySem.W.mg_of X G e11, PySem.W.mg_of X G e12, PySem.W.mg_of X G e13, PySem.W.mg_none_of X G z_ValueError⟩, ⟨⟨r7cl, r7ga, r7gg, r7sb, r7hd, r7ct, qhn, qht, r7mr, r7ix, r7nm⟩, r7of, r7rw, r7wd, PySem.W.exm_ref dEs dEh dEt r7xe, kit_refE r7k7 d0c d0t r7k0, kit_refE r7k7 d1c d1t r7k1, kit_refE r7k7 d2c d2t r7k2, kit_refE r7k7 d3c d3t r7k3, kit_refE r7k7 d4c d4t r7k4, kit_refE r7k7 d5c d5t r7k5, kit_refE r7k7 d6c d6t r7k6, kit_refE r7k7 d7c d7t r7k7, kit_refE r7k7 d8c d8t r7k8, kit_refE r7k7 d9c d9t r7k9, kit_refE r7k7 d10c d10t r7k10, kit_refE r7k7 d11c d11t r7k11, kit_refE r7k7 d12c d12t r7k12, kit_refE r7k7 d13c d13t r7k13, kit_tyE (by decide +kernel) r7kv⟩, ⟨⟨r9cl, r9ga, r9gg, r9sb, r9hd, r9ct, qhn, qht, r9mr, r9ix, r9nm⟩, r9of, r9rw, r9wd, PySem.W.exm_ref dEs dEh dEt r9xe, kit_refE r9k9 d0c d0t r9k0, kit_refE r9k9 d1c d1t r9k1, kit_refE r9k9 d2c d2t r9k2, kit_refE r9k9 d3c d3t r9k3, kit_refE r9k9 d4c d4t r9k4, kit_refE r9k9 d5c d5t r9k5, kit_refE r9k9 d6c d6t r9k6, kit_refE r9k9 d7c d7t r9k7, kit_refE r9k9 d8c d8t r9k8, kit_refE r9k9 d9c d9t r9k9, kit_refE r9k9 d10c d10t r9k10, kit_refE r9k9 d11c d11t r9k11, kit_refE r9k9 d12c d12t r9k12, kit_refE r9k9 d13c d13t r9k13, kit_tyE (by decide +kernel) r9kv⟩, ⟨_, _, Bta, Gta⟩, ⟨_, _, Bse, Gse⟩, ⟨_, _, Bjn, Gjn⟩, ⟨_, _, Bca, Gca⟩, ⟨_, _, Brd, Grd⟩, ⟨_, _, MI3, PySem.W.mg_of X G aX3, bLi, GLi⟩, ⟨_, _, MLj, GLj⟩, ⟨_, _, Bld, Gld⟩, ⟨_, _, Bps, Gps⟩, ⟨_, _, Bal, Gal⟩, ⟨_, _, MLq, GLq⟩, ⟨_, _, WT⟩⟩
end Sl

open PySem PySem.W PyProof.Rows
set_option maxRecDepth 100000 in
set_option maxHeartbeats 0 in
theorem PySem.Challenge.cw_slowleaders_k43_positions_holds : PySem.Challenge.rw_slowleaders_k43_positions.Holds := by
  w_on; o_law; k_head; (case hw => w_witness2)
  k_fill
  refine LamX.walk_ofTs (l := PySem.Challenge.rw_slowleaders_k43_positions) (n := 63) (k := 15) (x := "_law_script") (CX := fun _ => L2.CX0) rfl (by decide) rfl ⟨rfl, by decide, by decide⟩ (fun w h Y => PySem.W.km_in_of Y) ?F (fun _ _ _ _ _ z => z)
  case F =>
    intro w mg fa h Y KX G hmg
    have hT8 := km_tabs_of Y
    refine' Sl.all_mk (Pio := 336) (Pla := 863) (mc := PySem.Value.type "type") KX G hmg ?aC ?aR ?aX3 ?ain ?lin ?cin ?kin ?anm ?lnm ?cnm ?knm ?aic ?lic ?cic ?kic ?acc ?lcc ?ccc ?kcc ?akn ?lkn ?ckn ?kkn ?acw ?lcw ?ccw ?kcw ?aio ?lio ?cio ?kio ?hio ?nio ?afo ?lfo ?cfo ?kfo ?adv ?ldv ?cdv ?kdv ?ais ?lis ?cis ?kis ?auo ?luo ?cuo ?kuo ?aru ?lru ?cru ?kru ?aai ?lai ?cai ?kai ?ach ?lch ?cch ?kch ?ajo ?ljo ?cjo ?kjo ?are ?lre ?cre ?kre ?ask ?lsk ?csk ?ksk ?aop ?lop ?cop ?kop ?aex ?lex ?cex ?kex ?apa ?lpa ?cpa ?kpa ?ale ?lle ?cle ?kle ?aah ?lah ?cah ?kah ?ata ?lta ?cta ?kta ?aal ?lal ?cal ?kal ?ato ?lto ?cto ?kto ?ase ?lse ?cse ?kse ?ard ?lrd ?crd ?krd ?ajn ?ljn ?cjn ?kjn ?aca ?lca ?cca ?kca ?ald ?lld ?cld ?kld ?avi ?lvi ?cvi ?kvi ?aps ?lps ?cps ?kps ?ala ?lla ?cla ?kla ?hla ?nla ?aDi ?iDi ?lDi ?cDi ?kDi ?aDc ?iDc ?lDc ?cDc ?kDc ?aDp ?iDp ?lDp ?cDp ?kDp ?aDo ?iDo ?lDo ?cDo ?kDo ?aDg ?iDg ?lDg ?cDg ?kDg ?aDa ?iDa ?lDa ?cDa ?kDa ?lT ?aDh ?iDh ?lDh ?cDh ?kDh ?aRi ?iRi ?lRi ?cRi ?kRi ?aLi ?iLi ?lLi ?cLi ?kLi ?aLj ?iLj ?lLj ?cLj ?kLj ?aLp ?iLp ?lLp ?cLp ?kLp ?aLq ?iLq ?lLq ?cLq ?kLq ?aRo ?rRo ?lRo ?cRo ?kRo ?fRo' ?cr1 ?cr2 ?aRs ?gRs ?tRs ?rRs ?lRs ?cRs ?kRs ?jDg ?jDa ?pgC ?hdC ?poC ?saC ?mkC ?kcC ?pgR ?hdR ?poR ?saR ?mkR ?kcR ?pgL ?hdL ?poL ?saL ?mkL ?kcL ?nC_sections ?nC_paces ?nC_ticks ?nC_orders ?nC_leaders ?nL_states ?nL_undone ?nL_in_block ?nL_kept_states ?nL_kept_undone ?nR_sections ?nR_units ?z_isinstance ?z_int ?z_bool ?z_str ?z_tuple ?z_len ?z_all ?z_enumerate ?z_sorted ?z_list ?z_range ?z_sum ?z_max ?z_min ?z_dict ?z_ValueError ?v0 ?v1 ?v2 ?v3 ?v4 ?v5 ?v6 ?aL ?aK ?dlN ?dlW ?dkN ?dkW ?kM ?eE ?e0 ?e1 ?e2 ?e3 ?e4 ?e5 ?e6 ?e7 ?e8 ?e9 ?e10 ?e11 ?e12 ?e13 ?dEs ?dEh ?dEt ?d0c ?d0t ?d1c ?d1t ?d2c ?d2t ?d3c ?d3t ?d4c ?d4t ?d5c ?d5t ?d6c ?d6t ?d7c ?d7t ?d8c ?d8t ?d9c ?d9t ?d10c ?d10t ?d11c ?d11t ?d12c ?d12t ?d13c ?d13t ?r7cl ?r7ga ?r7gg ?r7sb ?r7hd ?r7ct ?r7mr ?r7ix ?r7nm ?r7xe ?r7kv ?r7k0 ?r7k1 ?r7k2 ?r7k3 ?r7k4 ?r7k5 ?r7k6 ?r7k7 ?r7k8 ?r7k9 ?r7k10 ?r7k11 ?r7k12 ?r7k13 ?r7of ?r7rw ?r7wd ?r9cl ?r9ga ?r9gg ?r9sb ?r9hd ?r9ct ?r9mr ?r9ix ?r9nm ?r9xe ?r9kv ?r9k0 ?r9k1 ?r9k2 ?r9k3 ?r9k4 ?r9k5 ?r9k6 ?r9k7 ?r9k8 ?r9k9 ?r9k10 ?r9k11 ?r9k12 ?r9k13 ?r9of ?r9rw ?r9wd ?r0sb ?r0ix ?r8sb ?r10sb ?xU ?saU ?kU ?aUi ?tUi ?lUi ?cUi ?kUi ?xO ?saO ?kO ?aOi ?tOi ?lOi ?cOi ?kOi ?n8q ?n8k ?n9q ?n9k ?n10q ?n10k ?qhn ?qht ?oA ?oG ?oJa ?oRa ?oSa ?oJg ?oRg ?oSg ?oM ?gGcd ?neP01 ?hT
    (case aC => first | k_is | k_exc | kx_is)
    (case aR => first | k_is | k_exc | kx_is)
    (case aX3 => first | k_is | k_exc | kx_is)
    (case ain => first | k_is | k_exc | kx_is)
    (case lin => first | k_is | k_exc | kx_is)
    (case cin => first | k_is | k_exc | kx_is)
    (case kin => first | k_is | k_exc | kx_is)
    (case anm => first | k_is | k_exc | kx_is)
    (case lnm => first | k_is | k_exc | kx_is)
    (case cnm => first | k_is | k_exc | kx_is)
    (case knm => first | k_is | k_exc | kx_is)
    (case aic => first | k_is | k_exc | kx_is)
    (case lic => first | k_is | k_exc | kx_is)
    (case cic => first | k_is | k_exc | kx_is)
    (case kic => first | k_is | k_exc | kx_is)
    (case acc => first | k_is | k_exc | kx_is)
    (case lcc => first | k_is | k_exc | kx_is)
    (case ccc => first | k_is | k_exc | kx_is)
    (case kcc => first | k_is | k_exc | kx_is)
    (case akn => first | k_is | k_exc | kx_is)
    (case lkn => first | k_is | k_exc | kx_is)
    (case ckn => first | k_is | k_exc | kx_is)
    (case kkn => first | k_is | k_exc | kx_is)
    (case acw => first | k_is | k_exc | kx_is)
    (case lcw => first | k_is | k_exc | kx_is)
    (case ccw => first | k_is | k_exc | kx_is)
    (case kcw => first | k_is | k_exc | kx_is)
    (case aio => first | k_is | k_exc | kx_is)
    (case lio => first | k_is | k_exc | kx_is)
    (case cio => first | k_is | k_exc | kx_is)
    (case kio => first | k_is | k_exc | kx_is)
    (case hio => first | kernel_rfl | k_is)
    (case nio => first | kernel_rfl | k_is)
    (case afo => first | k_is | k_exc | kx_is)
    (case lfo => first | k_is | k_exc | kx_is)
    (case cfo => first | k_is | k_exc | kx_is)
    (case kfo => first | k_is | k_exc | kx_is)
    (case adv => first | k_is | k_exc | kx_is)
    (case ldv => first | k_is | k_exc | kx_is)
    (case cdv => first | k_is | k_exc | kx_is)
    (case kdv => first | k_is | k_exc | kx_is)
    (case ais => first | k_is | k_exc | kx_is)
    (case lis => first | k_is | k_exc | kx_is)
    (case cis => first | k_is | k_exc | kx_is)
    (case kis => first | k_is | k_exc | kx_is)
    (case auo => first | k_is | k_exc | kx_is)
    (case luo => first | k_is | k_exc | kx_is)
    (case cuo => first | k_is | k_exc | kx_is)
    (case kuo => first | k_is | k_exc | kx_is)
    (case aru => first | k_is | k_exc | kx_is)
    (case lru => first | k_is | k_exc | kx_is)
    (case cru => first | k_is | k_exc | kx_is)
    (case kru => first | k_is | k_exc | kx_is)
    (case aai => first | k_is | k_exc | kx_is)
    (case lai => first | k_is | k_exc | kx_is)
    (case cai => first | k_is | k_exc | kx_is)
    (case kai => first | k_is | k_exc | kx_is)
    (case ach => first | k_is | k_exc | kx_is)
    (case lch => first | k_is | k_exc | kx_is)
    (case cch => first | k_is | k_exc | kx_is)
    (case kch => first | k_is | k_exc | kx_is)
    (case ajo => first | k_is | k_exc | kx_is)
    (case ljo => first | k_is | k_exc | kx_is)
    (case cjo => first | k_is | k_exc | kx_is)
    (case kjo => first | k_is | k_exc | kx_is)
    (case are => first | k_is | k_exc | kx_is)
    (case lre => first | k_is | k_exc | kx_is)
    (case cre => first | k_is | k_exc | kx_is)
    (case kre => first | k_is | k_exc | kx_is)
    (case ask => first | k_is | k_exc | kx_is)
    (case lsk => first | k_is | k_exc | kx_is)
    (case csk => first | k_is | k_exc | kx_is)
    (case ksk => first | k_is | k_exc | kx_is)
    (case aop => first | k_is | k_exc | kx_is)
    (case lop => first | k_is | k_exc | kx_is)
    (case cop => first | k_is | k_exc | kx_is)
    (case kop => first | k_is | k_exc | kx_is)
    (case aex => first | k_is | k_exc | kx_is)
    (case lex => first | k_is | k_exc | kx_is)
    (case cex => first | k_is | k_exc | kx_is)
    (case kex => first | k_is | k_exc | kx_is)
    (case apa => first | k_is | k_exc | kx_is)
    (case lpa => first | k_is | k_exc | kx_is)
    (case cpa => first | k_is | k_exc | kx_is)
    (case kpa => first | k_is | k_exc | kx_is)
    (case ale => first | k_is | k_exc | kx_is)
    (case lle => first | k_is | k_exc | kx_is)
    (case cle => first | k_is | k_exc | kx_is)
    (case kle => first | k_is | k_exc | kx_is)
    (case aah => first | k_is | k_exc | kx_is)
    (case lah => first | k_is | k_exc | kx_is)
    (case cah => first | k_is | k_exc | kx_is)
    (case kah => first | k_is | k_exc | kx_is)
    (case ata => first | k_is | k_exc | kx_is)
    (case lta => first | k_is | k_exc | kx_is)
    (case cta => first | k_is | k_exc | kx_is)
    (case kta => first | k_is | k_exc | kx_is)
    (case aal => first | k_is | k_exc | kx_is)
    (case lal => first | k_is | k_exc | kx_is)
    (case cal => first | k_is | k_exc | kx_is)
    (case kal => first | k_is | k_exc | kx_is)
    (case ato => first | k_is | k_exc | kx_is)
    (case lto => first | k_is | k_exc | kx_is)
    (case cto => first | k_is | k_exc | kx_is)
    (case kto => first | k_is | k_exc | kx_is)
    (case ase => first | k_is | k_exc | kx_is)
    (case lse => first | k_is | k_exc | kx_is)
    (case cse => first | k_is | k_exc | kx_is)
    (case kse => first | k_is | k_exc | kx_is)
    (case ard => first | k_is | k_exc | kx_is)
    (case lrd => first | k_is | k_exc | kx_is)
    (case crd => first | k_is | k_exc | kx_is)
    (case krd => first | k_is | k_exc | kx_is)
    (case ajn => first | k_is | k_exc | kx_is)
    (case ljn => first | k_is | k_exc | kx_is)
    (case cjn => first | k_is | k_exc | kx_is)
    (case kjn => first | k_is | k_exc | kx_is)
    (case aca => first | k_is | k_exc | kx_is)
    (case lca => first | k_is | k_exc | kx_is)
    (case cca => first | k_is | k_exc | kx_is)
    (case kca => first | k_is | k_exc | kx_is)
    (case ald => first | k_is | k_exc | kx_is)
    (case lld => first | k_is | k_exc | kx_is)
    (case cld => first | k_is | k_exc | kx_is)
    (case kld => first | k_is | k_exc | kx_is)
    (case avi => first | k_is | k_exc | kx_is)
    (case lvi => first | k_is | k_exc | kx_is)
    (case cvi => first | k_is | k_exc | kx_is)
    (case kvi => first | k_is | k_exc | kx_is)
    (case aps => first | k_is | k_exc | kx_is)
    (case lps => first | k_is | k_exc | kx_is)
    (case cps => first | k_is | k_exc | kx_is)
    (case kps => first | k_is | k_exc | kx_is)
    (case ala => first | k_is | k_exc | kx_is)
    (case lla => first | k_is | k_exc | kx_is)
    (case cla => first | k_is | k_exc | kx_is)
    (case kla => first | k_is | k_exc | kx_is)
    (case hla => first | kernel_rfl | k_is)
    (case nla => first | kernel_rfl | k_is)
    (case aDi => first | k_is | k_exc | kx_is)
    (case iDi => first | k_is | k_exc | kx_is)
    (case lDi => first | k_is | k_exc | kx_is)
    (case cDi => first | k_is | k_exc | kx_is)
    (case kDi => first | k_is | k_exc | kx_is)
    (case aDc => first | k_is | k_exc | kx_is)
    (case iDc => first | k_is | k_exc | kx_is)
    (case lDc => first | k_is | k_exc | kx_is)
    (case cDc => first | k_is | k_exc | kx_is)
    (case kDc => first | k_is | k_exc | kx_is)
    (case aDp => first | k_is | k_exc | kx_is)
    (case iDp => first | k_is | k_exc | kx_is)
    (case lDp => first | k_is | k_exc | kx_is)
    (case cDp => first | k_is | k_exc | kx_is)
    (case kDp => first | k_is | k_exc | kx_is)
    (case aDo => first | k_is | k_exc | kx_is)
    (case iDo => first | k_is | k_exc | kx_is)
    (case lDo => first | k_is | k_exc | kx_is)
    (case cDo => first | k_is | k_exc | kx_is)
    (case kDo => first | k_is | k_exc | kx_is)
    (case aDg => first | k_is | k_exc | kx_is)
    (case iDg => first | k_is | k_exc | kx_is)
    (case lDg => first | k_is | k_exc | kx_is)
    (case cDg => first | k_is | k_exc | kx_is)
    (case kDg => first | k_is | k_exc | kx_is)
    (case aDa => first | k_is | k_exc | kx_is)
    (case iDa => first | k_is | k_exc | kx_is)
    (case lDa => first | k_is | k_exc | kx_is)
    (case cDa => first | k_is | k_exc | kx_is)
    (case kDa => first | k_is | k_exc | kx_is)
    (case lT => first | k_is | k_exc | kx_is)
    (case aDh => first | k_is | k_exc | kx_is)
    (case iDh => first | k_is | k_exc | kx_is)
    (case lDh => first | k_is | k_exc | kx_is)
    (case cDh => first | k_is | k_exc | kx_is)
    (case kDh => first | k_is | k_exc | kx_is)
    (case aRi => first | k_is | k_exc | kx_is)
    (case iRi => first | k_is | k_exc | kx_is)
    (case lRi => first | k_is | k_exc | kx_is)
    (case cRi => first | k_is | k_exc | kx_is)
    (case kRi => first | k_is | k_exc | kx_is)
    (case aLi => first | k_is | k_exc | kx_is)
    (case iLi => first | k_is | k_exc | kx_is)
    (case lLi => first | k_is | k_exc | kx_is)
    (case cLi => first | k_is | k_exc | kx_is)
    (case kLi => first | k_is | k_exc | kx_is)
    (case aLj => first | k_is | k_exc | kx_is)
    (case iLj => first | k_is | k_exc | kx_is)
    (case lLj => first | k_is | k_exc | kx_is)
    (case cLj => first | k_is | k_exc | kx_is)
    (case kLj => first | k_is | k_exc | kx_is)
    (case aLp => first | k_is | k_exc | kx_is)
    (case iLp => first | k_is | k_exc | kx_is)
    (case lLp => first | k_is | k_exc | kx_is)
    (case cLp => first | k_is | k_exc | kx_is)
    (case kLp => first | k_is | k_exc | kx_is)
    (case aLq => first | k_is | k_exc | kx_is)
    (case iLq => first | k_is | k_exc | kx_is)
    (case lLq => first | k_is | k_exc | kx_is)
    (case cLq => first | k_is | k_exc | kx_is)
    (case kLq => first | k_is | k_exc | kx_is)
    (case aRo => first | k_is | k_exc | kx_is)
    (case rRo => first | k_is | k_exc | kx_is)
    (case lRo => first | k_is | k_exc | kx_is)
    (case cRo => first | k_is | k_exc | kx_is)
    (case kRo => first | k_is | k_exc | kx_is)
    (case fRo' => first | k_is | k_exc | kx_is)
    (case cr1 => first | k_is | k_exc | kx_is)
    (case cr2 => first | k_is | k_exc | kx_is)
    (case aRs => first | k_is | k_exc | kx_is)
    (case gRs => first | k_is | k_exc | kx_is)
    (case tRs => first | k_is | k_exc | kx_is)
    (case rRs => first | k_is | k_exc | kx_is)
    (case lRs => first | k_is | k_exc | kx_is)
    (case cRs => first | k_is | k_exc | kx_is)
    (case kRs => first | k_is | k_exc | kx_is)
    (case jDg => first | k_is | k_exc | kx_is)
    (case jDa => first | k_is | k_exc | kx_is)
    (case pgC => first | k_is | k_exc | kx_is)
    (case hdC => first | k_is | k_exc | kx_is)
    (case poC => first | k_is | k_exc | kx_is)
    (case saC => first | k_is | k_exc | kx_is)
    (case mkC => first | k_is | k_exc | kx_is)
    (case kcC => first | k_is | k_exc | kx_is)
    (case pgR => first | k_is | k_exc | kx_is)
    (case hdR => first | k_is | k_exc | kx_is)
    (case poR => first | k_is | k_exc | kx_is)
    (case saR => first | k_is | k_exc | kx_is)
    (case mkR => first | k_is | k_exc | kx_is)
    (case kcR => first | k_is | k_exc | kx_is)
    (case pgL => first | k_is | k_exc | kx_is)
    (case hdL => first | k_is | k_exc | kx_is)
    (case poL => first | k_is | k_exc | kx_is)
    (case saL => first | k_is | k_exc | kx_is)
    (case mkL => first | k_is | k_exc | kx_is)
    (case kcL => first | k_is | k_exc | kx_is)
    (case nC_sections => first | k_is | k_exc | kx_is)
    (case nC_paces => first | k_is | k_exc | kx_is)
    (case nC_ticks => first | k_is | k_exc | kx_is)
    (case nC_orders => first | k_is | k_exc | kx_is)
    (case nC_leaders => first | k_is | k_exc | kx_is)
    (case nL_states => first | k_is | k_exc | kx_is)
    (case nL_undone => first | k_is | k_exc | kx_is)
    (case nL_in_block => first | k_is | k_exc | kx_is)
    (case nL_kept_states => first | k_is | k_exc | kx_is)
    (case nL_kept_undone => first | k_is | k_exc | kx_is)
    (case nR_sections => first | k_is | k_exc | kx_is)
    (case nR_units => first | k_is | k_exc | kx_is)
    (case z_isinstance => first | k_is | k_exc | kx_is)
    (case z_int => first | k_is | k_exc | kx_is)
    (case z_bool => first | k_is | k_exc | kx_is)
    (case z_str => first | k_is | k_exc | kx_is)
    (case z_tuple => first | k_is | k_exc | kx_is)
    (case z_len => first | k_is | k_exc | kx_is)
    (case z_all => first | k_is | k_exc | kx_is)
    (case z_enumerate => first | k_is | k_exc | kx_is)
    (case z_sorted => first | k_is | k_exc | kx_is)
    (case z_list => first | k_is | k_exc | kx_is)
    (case z_range => first | k_is | k_exc | kx_is)
    (case z_sum => first | k_is | k_exc | kx_is)
    (case z_max => first | k_is | k_exc | kx_is)
    (case z_min => first | k_is | k_exc | kx_is)
    (case z_dict => first | k_is | k_exc | kx_is)
    (case z_ValueError => first | k_is | k_exc | kx_is)
    (case v0 => first | k_is | k_exc | kx_is)
    (case v1 => first | k_is | k_exc | kx_is)
    (case v2 => first | k_is | k_exc | kx_is)
    (case v3 => first | k_is | k_exc | kx_is)
    (case v4 => first | k_is | k_exc | kx_is)
    (case v5 => first | k_is | k_exc | kx_is)
    (case v6 => first | k_is | k_exc | kx_is)
    (case aL => first | k_is | k_exc | kx_is)
    (case aK => first | k_is | k_exc | kx_is)
    (case dlN => exact ⟨_, _, _, by k_is, by (first | exact ⟨⟨_, _, rfl, rfl⟩, ⟨_, _, rfl, rfl⟩, trivial⟩ | (constructor; exact ⟨_, _, rfl, rfl⟩; constructor; exact ⟨_, _, rfl, rfl⟩; trivial)), by k_is, ⟨_, rfl⟩⟩)
    (case dlW => exact ⟨_, _, _, by k_is, by (first | exact ⟨⟨_, _, rfl, rfl⟩, ⟨_, _, rfl, rfl⟩, trivial⟩ | (constructor; exact ⟨_, _, rfl, rfl⟩; constructor; exact ⟨_, _, rfl, rfl⟩; trivial)), by k_is, ⟨_, rfl⟩⟩)
    (case dkN => exact ⟨_, _, _, by k_is, by (first | exact ⟨⟨_, _, rfl, rfl⟩, ⟨_, _, rfl, rfl⟩, trivial⟩ | (constructor; exact ⟨_, _, rfl, rfl⟩; constructor; exact ⟨_, _, rfl, rfl⟩; trivial)), by k_is, ⟨_, rfl⟩⟩)
    (case dkW => exact ⟨_, _, _, by k_is, by (first | exact ⟨⟨_, _, rfl, rfl⟩, ⟨_, _, rfl, rfl⟩, trivial⟩ | (constructor; exact ⟨_, _, rfl, rfl⟩; constructor; exact ⟨_, _, rfl, rfl⟩; trivial)), by k_is, ⟨_, rfl⟩⟩)
    (case kM => decide)
    (case eE => first | k_is | k_exc | kx_is)
    (case e0 => first | k_is | k_exc | kx_is)
    (case e1 => first | k_is | k_exc | kx_is)
    (case e2 => first | k_is | k_exc | kx_is)
    (case e3 => first | k_is | k_exc | kx_is)
    (case e4 => first | k_is | k_exc | kx_is)
    (case e5 => first | k_is | k_exc | kx_is)
    (case e6 => first | k_is | k_exc | kx_is)
    (case e7 => first | k_is | k_exc | kx_is)
    (case e8 => first | k_is | k_exc | kx_is)
    (case e9 => first | k_is | k_exc | kx_is)
    (case e10 => first | k_is | k_exc | kx_is)
    (case e11 => first | k_is | k_exc | kx_is)
    (case e12 => first | k_is | k_exc | kx_is)
    (case e13 => first | k_is | k_exc | kx_is)
    (case dEs => first | k_is | k_exc | kx_is)
    (case dEh => first | k_is | k_exc | kx_is)
    (case dEt => first | k_is | k_exc | kx_is)
    (case d0c => first | k_is | k_exc | kx_is)
    (case d0t => first | k_is | k_exc | kx_is)
    (case d1c => first | k_is | k_exc | kx_is)
    (case d1t => first | k_is | k_exc | kx_is)
    (case d2c => first | k_is | k_exc | kx_is)
    (case d2t => first | k_is | k_exc | kx_is)
    (case d3c => first | k_is | k_exc | kx_is)
    (case d3t => first | k_is | k_exc | kx_is)
    (case d4c => first | k_is | k_exc | kx_is)
    (case d4t => first | k_is | k_exc | kx_is)
    (case d5c => first | k_is | k_exc | kx_is)
    (case d5t => first | k_is | k_exc | kx_is)
    (case d6c => first | k_is | k_exc | kx_is)
    (case d6t => first | k_is | k_exc | kx_is)
    (case d7c => first | k_is | k_exc | kx_is)
    (case d7t => first | k_is | k_exc | kx_is)
    (case d8c => first | k_is | k_exc | kx_is)
    (case d8t => first | k_is | k_exc | kx_is)
    (case d9c => first | k_is | k_exc | kx_is)
    (case d9t => first | k_is | k_exc | kx_is)
    (case d10c => first | k_is | k_exc | kx_is)
    (case d10t => first | k_is | k_exc | kx_is)
    (case d11c => first | k_is | k_exc | kx_is)
    (case d11t => first | k_is | k_exc | kx_is)
    (case d12c => first | k_is | k_exc | kx_is)
    (case d12t => first | k_is | k_exc | kx_is)
    (case d13c => first | k_is | k_exc | kx_is)
    (case d13t => first | k_is | k_exc | kx_is)
    (case r7cl => first | k_is | k_exc | kx_is)
    (case r7ga => first | k_is | k_exc | kx_is)
    (case r7gg => first | k_is | k_exc | kx_is)
    (case r7sb => first | k_is | k_exc | kx_is)
    (case r7hd => first | k_is | k_exc | kx_is)
    (case r7ct => first | k_is | k_exc | kx_is)
    (case r7mr => first | k_is | k_exc | kx_is)
    (case r7ix => first | k_is | k_exc | kx_is)
    (case r7nm => first | k_is | k_exc | kx_is)
    (case r7xe => first | k_is | k_exc | kx_is)
    (case r7kv => first | k_is | k_exc | kx_is)
    (case r7k0 => first | k_is | k_exc | kx_is)
    (case r7k1 => first | k_is | k_exc | kx_is)
    (case r7k2 => first | k_is | k_exc | kx_is)
    (case r7k3 => first | k_is | k_exc | kx_is)
    (case r7k4 => first | k_is | k_exc | kx_is)
    (case r7k5 => first | k_is | k_exc | kx_is)
    (case r7k6 => first | k_is | k_exc | kx_is)
    (case r7k7 => first | k_is | k_exc | kx_is)
    (case r7k8 => first | k_is | k_exc | kx_is)
    (case r7k9 => first | k_is | k_exc | kx_is)
    (case r7k10 => first | k_is | k_exc | kx_is)
    (case r7k11 => first | k_is | k_exc | kx_is)
    (case r7k12 => first | k_is | k_exc | kx_is)
    (case r7k13 => first | k_is | k_exc | kx_is)
    (case r7of => first | k_is | k_exc | kx_is)
    (case r7rw => first | k_is | k_exc | kx_is)
    (case r7wd => first | k_is | k_exc | kx_is)
    (case r9cl => first | k_is | k_exc | kx_is)
    (case r9ga => first | k_is | k_exc | kx_is)
    (case r9gg => first | k_is | k_exc | kx_is)
    (case r9sb => first | k_is | k_exc | kx_is)
    (case r9hd => first | k_is | k_exc | kx_is)
    (case r9ct => first | k_is | k_exc | kx_is)
    (case r9mr => first | k_is | k_exc | kx_is)
    (case r9ix => first | k_is | k_exc | kx_is)
    (case r9nm => first | k_is | k_exc | kx_is)
    (case r9xe => first | k_is | k_exc | kx_is)
    (case r9kv => first | k_is | k_exc | kx_is)
    (case r9k0 => first | k_is | k_exc | kx_is)
    (case r9k1 => first | k_is | k_exc | kx_is)
    (case r9k2 => first | k_is | k_exc | kx_is)
    (case r9k3 => first | k_is | k_exc | kx_is)
    (case r9k4 => first | k_is | k_exc | kx_is)
    (case r9k5 => first | k_is | k_exc | kx_is)
    (case r9k6 => first | k_is | k_exc | kx_is)
    (case r9k7 => first | k_is | k_exc | kx_is)
    (case r9k8 => first | k_is | k_exc | kx_is)
    (case r9k9 => first | k_is | k_exc | kx_is)
    (case r9k10 => first | k_is | k_exc | kx_is)
    (case r9k11 => first | k_is | k_exc | kx_is)
    (case r9k12 => first | k_is | k_exc | kx_is)
    (case r9k13 => first | k_is | k_exc | kx_is)
    (case r9of => first | k_is | k_exc | kx_is)
    (case r9rw => first | k_is | k_exc | kx_is)
    (case r9wd => first | k_is | k_exc | kx_is)
    (case r0sb => first | k_is | k_exc | kx_is)
    (case r0ix => first | k_is | k_exc | kx_is)
    (case r8sb => first | k_is | k_exc | kx_is)
    (case r10sb => first | k_is | k_exc | kx_is)
    (case xU => first | k_is | k_exc | kx_is)
    (case saU => first | k_is | k_exc | kx_is)
    (case kU => first | k_is | k_exc | kx_is)
    (case aUi => first | k_is | k_exc | kx_is)
    (case tUi => first | k_is | k_exc | kx_is)
    (case lUi => first | k_is | k_exc | kx_is)
    (case cUi => first | k_is | k_exc | kx_is)
    (case kUi => first | k_is | k_exc | kx_is)
    (case xO => first | k_is | k_exc | kx_is)
    (case saO => first | k_is | k_exc | kx_is)
    (case kO => first | k_is | k_exc | kx_is)
    (case aOi => first | k_is | k_exc | kx_is)
    (case tOi => first | k_is | k_exc | kx_is)
    (case lOi => first | k_is | k_exc | kx_is)
    (case cOi => first | k_is | k_exc | kx_is)
    (case kOi => first | k_is | k_exc | kx_is)
    (case n8q => first | k_is | k_exc | kx_is)
    (case n8k => first | k_is | k_exc | kx_is)
    (case n9q => first | k_is | k_exc | kx_is)
    (case n9k => first | k_is | k_exc | kx_is)
    (case n10q => first | k_is | k_exc | kx_is)
    (case n10k => first | k_is | k_exc | kx_is)
    (case qhn => first | k_is | k_exc | kx_is)
    (case qht => first | k_is | k_exc | kx_is)
    (case oA => first | k_is | k_exc | kx_is)
    (case oG => first | k_is | k_exc | kx_is)
    (case oJa => exact ⟨_, _, _, by k_is, by (first | exact ⟨⟨_, _, rfl, rfl⟩, ⟨_, _, rfl, rfl⟩, ⟨_, _, rfl, rfl⟩, trivial⟩ | (constructor; exact ⟨_, _, rfl, rfl⟩; constructor; exact ⟨_, _, rfl, rfl⟩; constructor; exact ⟨_, _, rfl, rfl⟩; trivial)), by k_is, rfl⟩)
    (case oRa => exact ⟨_, _, _, by k_is, by (first | exact ⟨⟨_, _, rfl, rfl⟩, ⟨_, _, rfl, rfl⟩, ⟨_, _, rfl, rfl⟩, trivial⟩ | (constructor; exact ⟨_, _, rfl, rfl⟩; constructor; exact ⟨_, _, rfl, rfl⟩; constructor; exact ⟨_, _, rfl, rfl⟩; trivial)), by k_is, rfl⟩)
    (case oSa => exact ⟨_, _, _, by k_is, by (first | exact ⟨⟨_, _, rfl, rfl⟩, ⟨_, _, rfl, rfl⟩, ⟨_, _, rfl, rfl⟩, trivial⟩ | (constructor; exact ⟨_, _, rfl, rfl⟩; constructor; exact ⟨_, _, rfl, rfl⟩; constructor; exact ⟨_, _, rfl, rfl⟩; trivial)), by k_is, rfl⟩)
    (case oJg => exact ⟨_, _, _, by k_is, by (first | exact ⟨⟨_, _, rfl, rfl⟩, ⟨_, _, rfl, rfl⟩, ⟨_, _, rfl, rfl⟩, trivial⟩ | (constructor; exact ⟨_, _, rfl, rfl⟩; constructor; exact ⟨_, _, rfl, rfl⟩; constructor; exact ⟨_, _, rfl, rfl⟩; trivial)), by k_is, ⟨_, rfl⟩⟩)
    (case oRg => exact ⟨_, _, _, by k_is, by (first | exact ⟨⟨_, _, rfl, rfl⟩, ⟨_, _, rfl, rfl⟩, ⟨_, _, rfl, rfl⟩, trivial⟩ | (constructor; exact ⟨_, _, rfl, rfl⟩; constructor; exact ⟨_, _, rfl, rfl⟩; constructor; exact ⟨_, _, rfl, rfl⟩; trivial)), by k_is, ⟨_, rfl⟩⟩)
    (case oSg => exact ⟨_, _, _, by k_is, by (first | exact ⟨⟨_, _, rfl, rfl⟩, ⟨_, _, rfl, rfl⟩, ⟨_, _, rfl, rfl⟩, trivial⟩ | (constructor; exact ⟨_, _, rfl, rfl⟩; constructor; exact ⟨_, _, rfl, rfl⟩; constructor; exact ⟨_, _, rfl, rfl⟩; trivial)), by k_is, ⟨_, rfl⟩⟩)
    (case oM => decide)
    (case gGcd => first | k_is | k_exc | kx_is)
    (case neP01 => decide)
    (case hT => intro P hP; exact hT8 P (by rcases List.mem_cons.mp hP with z | hP; (rw [z]; k_mem); (rw [List.mem_singleton.mp hP]; k_mem)))
