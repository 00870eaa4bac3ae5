import PyProof.Rows.All
import Wide.All
import OpenK.AllK
import Wide.FinOn
import HandS.ForMost
import HandS.IsInst
import HandS.DictComp
import HandS.Walk
import HandS.Wide
import HandS.EndTab
import KE.KSortKeySt
import KE.KLam
import PyProof.TupleOfSeq
import HandS.SortKw
import HandS.Lambda
import HandS.Nested
import OpenK.KMeth
import OpenK.KOps
import HandS.Star
import HandS.SlotsOwn
import HandS.ClsMeth
import HandS.Property
import HandS.More
import KE.GoesMore
import KE.GoesEnum
import PyProof.EnumMake
import PyProof.StrOps2
import HandS.NoneIn
import HandS.Conv
import HandS.Defaults
import HandS.WordsDict
import PyProof.GenComp
import HandS.GenBody
import HandS.GenYield
import HandS.GenList
import HandS.ForDict
import HandS.Words
import HandS.MapSum
import HandS.DeepEq
import HandS.SortRule
import HandS.Style
import HandS.Small
import HandS.Iter
import PyProof.DictUpdate
import PyProof.EqAt
import PyProof.EqKinds
import PyProof.TupleCall
import KE.KDflt
import HandS.Base
import HandS.Call
import HandS.List
import HandS.Comp
import HandS.Text
import HandS.Exc
import HandS.Codes
import HandS.TryOnly
import PyProof.CodeObj
import HandS.ExcIs
import HandS.ExcField
import HandS.ExcInit
import HandS.WordsExc
import HandS.SetFor
import KE.KExcIs
import KE.KNestM
import PySem.Challenge.RW_slowleaders_k06_chains_of_changes
/-! A stable order by int keys: the one list that is ordered and keeps the rows of equal keys. -/
namespace OwnR
def ins {α : Type} (p : Int × α) : List (Int × α) → List (Int × α)
  | [] => [p]
  | q :: r => if p.1 ≤ q.1 then p :: q :: r else q :: ins p r
def isort {α : Type} : List (Int × α) → List (Int × α)
  | [] => []
  | p :: r => ins p (isort r)
section
variable {α β : Type}
theorem ins_perm (p : Int × α) : ∀ l : List (Int × α), (ins p l).Perm (p :: l)
  | [] => List.Perm.refl _
  | q :: r => by
    unfold ins
    split
    · exact List.Perm.refl _
    · exact ((ins_perm p r).cons q).trans (List.Perm.swap p q r)
theorem isort_perm : ∀ l : List (Int × α), (isort l).Perm l
  | [] => List.Perm.refl _
  | p :: r => (ins_perm p _).trans ((isort_perm r).cons p)
theorem ins_up (p : Int × α) : ∀ l : List (Int × α), l.Pairwise (fun a b => a.1 ≤ b.1) → (ins p l).Pairwise (fun a b => a.1 ≤ b.1)
  | [], _ => by simp [ins]
  | q :: r, h => by
    unfold ins
    have h1 := List.pairwise_cons.mp h
    split
    · rename_i hpq
      refine List.pairwise_cons.mpr ⟨fun b hb => ?_, h⟩
      rcases List.mem_cons.mp hb with rfl | hb
      · exact hpq
      · exact Int.le_trans hpq (h1.1 b hb)
    · rename_i hpq
      refine List.pairwise_cons.mpr ⟨fun b hb => ?_, ins_up p r h1.2⟩
      rcases List.mem_cons.mp ((ins_perm p r).mem_iff.mp hb) with rfl | hb
      · omega
      · exact h1.1 b hb
theorem isort_up : ∀ l : List (Int × α), (isort l).Pairwise (fun a b => a.1 ≤ b.1)
  | [] => List.Pairwise.nil
  | p :: r => ins_up p _ (isort_up r)
theorem ins_row (p : Int × α) (z : Int) : ∀ l : List (Int × α), (ins p l).filter (fun a => a.1 == z) = (p :: l).filter (fun a => a.1 == z)
  | [] => rfl
  | q :: r => by
    unfold ins
    split
    · rfl
    · rename_i hpq
      rw [List.filter_cons, ins_row p z r]
      by_cases h1 : p.1 = z
      · have h2 : (q.1 == z) = false := by simp; omega
        simp [List.filter_cons, h1, h2]
      · have h3 : (p.1 == z) = false := by simp [h1]
        simp [List.filter_cons, h3]
theorem isort_row (z : Int) : ∀ l : List (Int × α), (isort l).filter (fun a => a.1 == z) = l.filter (fun a => a.1 == z)
  | [] => rfl
  | p :: r => by
    unfold isort
    rw [ins_row, List.filter_cons, List.filter_cons, isort_row z r]
theorem eq_of_rows : ∀ l k : List (Int × α), l.Pairwise (fun a b => a.1 ≤ b.1) → k.Pairwise (fun a b => a.1 ≤ b.1) → (∀ z, l.filter (fun a => a.1 == z) = k.filter (fun a => a.1 == z)) → l = k
  | [], [], _, _, _ => rfl
  | [], b :: k, _, _, h => by
    have := h b.1
    simp at this
  | a :: l, [], _, _, h => by
    have := h a.1
    simp at this
  | a :: l, b :: k, hl, hk, h => by
    have l1 := List.pairwise_cons.mp hl
    have k1 := List.pairwise_cons.mp hk
    have hab : a.1 = b.1 := by
      rcases Int.lt_trichotomy a.1 b.1 with c | c | c
      · exfalso
        have e := h a.1
        rw [List.filter_cons, if_pos (by simp)] at e
        have m : a ∈ (b :: k).filter (fun x => x.1 == a.1) := by rw [← e]; exact List.mem_cons_self
        have m1 := List.mem_filter.mp m
        rcases List.mem_cons.mp m1.1 with e1 | e1
        · rw [e1] at c; omega
        · have := k1.1 a e1; omega
      · exact c
      · exfalso
        have e := h b.1
        have m : b ∈ (a :: l).filter (fun x => x.1 == b.1) := by
          rw [e, List.filter_cons, if_pos (by simp)]; exact List.mem_cons_self
        have m1 := List.mem_filter.mp m
        rcases List.mem_cons.mp m1.1 with e1 | e1
        · rw [e1] at c; omega
        · have := l1.1 b e1; omega
    have e := h a.1
    rw [List.filter_cons, if_pos (by simp), List.filter_cons, if_pos (by simp [hab])] at e
    have e0 : a = b := (List.cons.inj e).1
    subst e0
    refine congrArg _ (eq_of_rows l k l1.2 k1.2 fun z => ?_)
    have ez := h z
    by_cases c : a.1 = z
    · rw [List.filter_cons, if_pos (by simp [c]), List.filter_cons, if_pos (by simp [c])] at ez
      exact (List.cons.inj ez).2
    · rw [List.filter_cons, if_neg (by simp [c]), List.filter_cons, if_neg (by simp [c])] at ez
      exact ez
theorem isort_unique {l k : List (Int × α)} (h1 : k.Pairwise (fun a b => a.1 ≤ b.1)) (h2 : ∀ z, k.filter (fun a => a.1 == z) = l.filter (fun a => a.1 == z)) : k = isort l :=
  eq_of_rows k (isort l) h1 (isort_up l) fun z => (h2 z).trans (isort_row z l).symm
theorem ins_map (f : α → β) (p : Int × α) : ∀ l : List (Int × α), ins (p.1, f p.2) (l.map fun q => (q.1, f q.2)) = (ins p l).map fun q => (q.1, f q.2)
  | [] => rfl
  | q :: r => by
    simp only [List.map_cons, ins]
    split
    · rfl
    · rw [ins_map f p r, List.map_cons]
theorem isort_map (f : α → β) : ∀ l : List (Int × α), isort (l.map fun q => (q.1, f q.2)) = (isort l).map fun q => (q.1, f q.2)
  | [] => rfl
  | p :: r => by
    simp only [List.map_cons, isort]
    rw [isort_map f r, ins_map f p]
/-- the items in the order of their keys, stable -/
def sortBy (key : α → Int) (l : List α) : List α := (isort (l.map fun x => (key x, x))).map (·.2)
theorem sortBy_perm (key : α → Int) (l : List α) : (sortBy key l).Perm l := by
  have h := (isort_perm (l.map fun x => (key x, x))).map (·.2)
  rw [List.map_map] at h
  have e : ((fun x : Int × α => x.2) ∘ fun x => (key x, x)) = id := rfl
  rw [e, List.map_id] at h
  exact h
theorem sortBy_map (f : α → β) (k1 : α → Int) (k2 : β → Int) (l : List α) (h : ∀ x ∈ l, k2 (f x) = k1 x) : sortBy k2 (l.map f) = (sortBy k1 l).map f := by
  unfold sortBy
  have e : ((l.map f).map fun x => (k2 x, x)) = (l.map fun x => (k1 x, x)).map fun q => (q.1, f q.2) := by
    rw [List.map_map, List.map_map]
    refine List.map_congr_left fun x hx => ?_
    show (k2 (f x), f x) = (k1 x, f x)
    rw [h x hx]
  rw [e, isort_map, List.map_map, List.map_map]
  rfl
theorem sortBy_congr (k1 k2 : α → Int) (l : List α) (h : ∀ x ∈ l, k2 x = k1 x) : sortBy k2 l = sortBy k1 l := by
  have := sortBy_map (fun x => x) k1 k2 l h
  simpa using this
end
end OwnR

set_option Elab.async false
set_option linter.all false
set_option maxRecDepth 100000
set_option maxHeartbeats 2000000
namespace OwnR
open PySem PySem.Spec PyProof.Rows L2 LamX
/-! ### sorted(xs, key=lambda y: ..) -/
section
variable {prog : Program} {w : World} {A : Around} {E : Value → Shared → Prop} {s : Shared} {g0 : Heap} {L : Addr} {m : Str → Option Value} {news : List (Addr × Obj)} {vs : List Value}
/-- the new list is sorted by its keys and handed out -/
theorem sort_tail {R : PySem.Fin → Shared → Prop} {kz : List Int} {g : Addr} (F : Fr g0 L s.heap m) (N : News g0 L s.heap news) (hl : kz.length = vs.length) (hz : vs.length ≤ sizeLine)
    (turn : ∀ (i : Nat) (v : Value) (k : Int), vs[i]? = some v → kz[i]? = some k → ∀ (h : Heap) (tk : Nat) (own : List (Addr × Obj)), Fr g0 L h m → News g0 L h (news ++ own) →
      wpAny (model prog w) A.in1 (call (.ref g) [v]) (KskEnd g0 L m (news ++ own) k { s with heap := h, toks := tk }) (fun _ _ => False) { s with heap := h, toks := tk })
    (done : ∀ h' tk out c, Fr g0 L h' m → News g0 L h' ((s.heap.objs.size, seqObj "list" out c) :: news) → KskOutSt false kz vs out.toList → R (.done (.ret (.ref s.heap.objs.size))) { s with heap := h', toks := tk }) :
    wpAny (model prog w) A (newList vs >>= fun l => holding [l] (call (.builtin "list.sort") [l] [(Str.ofString "key", .ref g)]) >>= fun _ => ret l) R E s := by
  have hL : L < s.heap.objs.size := F.ns.lt
  have at0 : (s.heap.push (seqObj "list" vs.toArray 0)).get? s.heap.objs.size = some (seqObj "list" vs.toArray 0) := Heap.get?_push_size _ rfl
  have kp : ∀ b o, s.heap.get? b = some o → (s.heap.push (seqObj "list" vs.toArray 0)).get? b = some o := fun b o e => Heap.get?_push_of_some _ e
  refine wpAny_bind (wpAny_newList ?_ hz)
  show wpAny _ _ _ _ _ { s with heap := s.heap.push (seqObj "list" vs.toArray 0) }
  refine wpAny_bind (wpAny_holding (wpAny_call_entry_kw slot_list_sort ⟨_, at0, rfl⟩ entry_list_sort ?body (ksk_l1 _ _)))
  case body =>
    have et := ksk_t1 g s.heap.objs.size
    show wpAny (model prog w) A.in1 (Builtin.«list.sort» ⟨[.ref s.heap.objs.size], [(Str.ofString "key", .ref g)]⟩) _ _ _
    rw [et]
    refine ksk_sortSt (h₀ := g0) (L := L) (m := m) (news := news) (kz := kz) (vs := vs) (s := { s with heap := s.heap.push (seqObj "list" vs.toArray 0) })
      (F.kept kp) (N.grown kp) at0 (Nat.ne_of_gt hL) (Heap.get?_none_of_le (Nat.le_trans F.above (Nat.le_of_lt hL))) (fun p hp => Nat.ne_of_lt (Heap.lt_size (N p hp).1)) hl hz turn
      fun h' tk out c F' N' k' => ⟨_, rfl, wpAny_pure (done h' tk out c F' N' k')⟩
end
/-- a value of the heap, without its token -/
def toV : Value → V
  | .none => .non
  | .bool b => .bl b
  | .int i _ => .int i
  | .str x _ => .str x
  | .bytes b _ => .byt b
  | .float b _ => .flt b
  | .ref a => .ref a
  | .type n => .ty n
  | _ => .non
theorem toV_of {x : V} {u : Value} (r : RelV x u) : toV u = x := by
  cases x with
  | non => cases (show u = Value.none from r); rfl
  | bl b => cases (show u = Value.bool b from r); rfl
  | int i => obtain ⟨t, e⟩ := (show ∃ t, u = Value.int i t from r); cases e; rfl
  | str x => obtain ⟨t, e⟩ := (show ∃ t, u = Value.str x t from r); cases e; rfl
  | byt b => obtain ⟨t, e⟩ := (show ∃ t, u = Value.bytes b t from r); cases e; rfl
  | flt b => obtain ⟨t, e⟩ := (show ∃ t, u = Value.float b t from r); cases e; rfl
  | ref a => cases (show u = Value.ref a from r); rfl
  | ty n => cases (show u = Value.type n from r); rfl
theorem toV_map {xs : List V} {us : List Value} (r : Vals xs us) : us.map toV = xs := by
  induction r with
  | nil => rfl
  | cons a _ ih => rw [List.map_cons, ih, toV_of a]
theorem vals_toV : ∀ {us : List Value}, (∀ u ∈ us, RelV (toV u) u) → Vals (us.map toV) us
  | [], _ => .nil
  | u :: us, h => .cons (h u List.mem_cons_self) (vals_toV fun v hv => h v (List.mem_cons_of_mem _ hv))
theorem vals_all {xs : List V} {us : List Value} (r : Vals xs us) : ∀ u ∈ us, RelV (toV u) u := by
  induction r with
  | nil => intro u hu; cases hu
  | cons a _ ih =>
    intro u hu
    rcases List.mem_cons.mp hu with rfl | hu
    · rw [toV_of a]; exact a
    · exact ih u hu
/-- what comes out, by values -/
theorem out_of {kz : List Int} {vs out : List Value} {xs : List V} (hl : kz.length = vs.length) (r : Vals xs vs) (k : KskOutSt false kz vs out) :
    ∃ ys, Vals ys out ∧ ys = (isort (kz.zip xs)).map (·.2) := by
  obtain ⟨ps, hp, ho, hs, hst⟩ := k
  have hs' : ps.Pairwise (fun a b => a.1 ≤ b.1) := hs
  have e := isort_unique hs' hst
  have e2 : kz.zip xs = (kz.zip vs).map fun q => (q.1, toV q.2) := by
    rw [← toV_map r, List.zip_map_right]
    rfl
  refine ⟨out.map toV, vals_toV fun u hu => ?_, ?_⟩
  · rw [ho] at hu
    obtain ⟨p, hm, rfl⟩ := List.mem_map.mp hu
    exact vals_all r _ (List.of_mem_zip (hp.mem_iff.mp hm)).2
  · rw [e2, isort_map, ho, e, List.map_map, List.map_map]
    rfl
/-- what a key's body gives for the value u: the int k, nothing changed -/
def KeyRun (X : Cx) (par : Str) (body : Expr) (scope : Scope) (s : Shared) (u : Value) (k : Int) : Prop :=
  ∀ (A : Around) (L' f c' : Addr) (h1 : Heap) (tk : Nat), (∀ b o, s.heap.get? b = some o → b ≠ X.env.locals → h1.get? b = some o) → h1.Ns L' (fun y => ([(par, u)] : List (Str × Value)).reverse.lookup y) →
    wpAny (model X.prog X.w) A (eval body (PySem.W.envX (X.env.qual ++ "<lambda>") scope L' f (.ref c') (cloFrom X.env.cells scope.names []))) (fun v s' => ∃ t tk', v = .int k t ∧ s' = { s with heap := h1, toks := tk' }) (fun _ _ => False)
      { s with heap := h1, toks := tk }
/-- the lambda's scope: its parameter, no cell of its own, captured names of the maker -/
structure LamP (sc scope : Scope) (par : Str) : Prop where
  kind : scope.kind = .function
  co : scope.isCoroutine = false
  gen : scope.isGenerator = false
  cell : ∀ y ∈ scope.names, y.2 ≠ .cell
  par : scope.names.lookup par = some .local
  free : ∀ y ∈ scope.names, y.2 = .free → sc.names.lookup y.1 = some .cell ∨ sc.names.lookup y.1 = some .free
def lamPB (sc scope : Scope) (par : Str) : Bool :=
  decide (scope.kind = .function) && !scope.isCoroutine && !scope.isGenerator && decide (scope.names.lookup par = some .local) && scope.names.all fun y => !decide (y.2 = .cell) && (!decide (y.2 = .free) || decide (sc.names.lookup y.1 = some .cell) || decide (sc.names.lookup y.1 = some .free))
theorem lamP_by {sc scope : Scope} {par : Str} (h : lamPB sc scope par = true) : LamP sc scope par := by
  unfold lamPB at h
  simp only [Bool.and_eq_true, Bool.or_eq_true, Bool.not_eq_true', decide_eq_true_eq, decide_eq_false_iff_not, List.all_eq_true] at h
  obtain ⟨⟨⟨⟨h1, h2⟩, h3⟩, h4⟩, h5⟩ := h
  refine ⟨h1, h2, h3, fun y hy => (h5 y hy).1, h4, fun y hy e => ?_⟩
  rcases (h5 y hy).2 with (z | z) | z
  · exact absurd e z
  · exact .inl z
  · exact .inr z
theorem LamP.has {X : Cx} {scope : Scope} {par : Str} (l : LamP X.env.scope scope par) (ok : X.Ok) : ∀ y ∈ scope.names, y.2 = .free → ∃ c, X.env.cells.lookup y.1 = some c := fun y hy e =>
  (l.free y hy e).elim (fun z => ok.has _ (.inl z)) fun z => ok.has _ (.inr z)
/-- the keys' readings: σ, H ahead; the item; its key -/
abbrev TKey := L2.St → Hp → V → Int → Prop
structure PKey (X : Cx) (par : Str) (body : Expr) (scope : Scope) (r : TKey) : Prop where
  run : ∀ (pins : List (Addr × Obj)) (s : Shared) (σ : L2.St) (H : Hp) (x : V) (u : Value) (k : Int), Inv X pins σ H s → RelV x u → r σ H x k → KeyRun X par body scope s u k
/-- sorted(xs, key=lambda y: body): T the tables of code objects -/
def sortWant (K : PySem.W.Frag) (T : List (Addr × Str)) (r : TKey) (σ : L2.St) (Q : VK) : V → Hp → Prop := fun x H1 => ∃ (p : Addr) (xs : List V) (ks : List Int), x = .ref p ∧ (SqL K H1 p xs ∨ SqT K H1 p xs) ∧ ks.length = xs.length ∧
  Tabs T H1 ∧ (∀ H2, ExtN H1 H2 → ∀ (i : Nat) (x : V) (k : Int), xs[i]? = some x → ks[i]? = some k → r σ H2 x k) ∧
  ∀ H2 D, ExtN H1 H2 → Tabs T H2 → H2 D = none → Q (.ref D) (upd H2 D (.lst ((isort (ks.zip xs)).map (·.2))))
def tSortLam (K : PySem.W.Frag) (T : List (Addr × Str)) (te : TE) (r : TKey) : TE := fun σ H Q => te σ H (sortWant K T r σ Q)
def one1 (g : V → Hp → Prop) : List V → Hp → Prop := fun vs H => match vs with
  | [x] => g x H
  | _ => False
theorem one1_of {g : V → Hp → Prop} {vs : List V} {H : Hp} (h : one1 g vs H) : ∃ x, vs = [x] ∧ g x H := by
  match vs, h with
  | [x], h => exact ⟨x, rfl, h⟩
theorem ns_one {h : Heap} {a : Addr} {m m' : Str → Option Value} (x : h.Ns a m) (y : h.Ns a m') : m = m' := by
  obtain ⟨o, es, ep, ho, hd, _, hm⟩ := x
  obtain ⟨o', es', ep', ho', hd', _, hm'⟩ := y
  rw [ho] at ho'
  cases ho'
  rw [hd] at hd'
  cases hd'
  funext z
  rw [← hm z, hm' z]
/-- a new object, all others kept but the frame's, whose names stay -/
theorem inv_laidL {X : Cx} {pins : List (Addr × Obj)} {σ : L2.St} {H : Hp} {s : Shared} {h' : Heap} {D tk : Nat} {o : HO} {m : Str → Option Value} (I : Inv X pins σ H s) (hn : s.heap.Ns X.env.locals m) (hn' : h'.Ns X.env.locals m)
    (k : ∀ b u, s.heap.get? b = some u → b ≠ X.env.locals → h'.get? b = some u) (hD : s.heap.objs.size ≤ D) (new : ObjOk X.prog X.w (upd H D o) h' D o) : Inv X pins σ (upd H D o) { s with heap := h', toks := tk } := by
  have fD : H D = none := I.hok.fresh hD
  have old : ∀ b u, s.heap.get? b = some u → b ≠ D := fun b u e => Nat.ne_of_lt (Nat.lt_of_lt_of_le (Heap.lt_size e) hD)
  have trL : ∀ b u, H b = some u → b ≠ X.env.locals := fun b u e => ne_of_none e I.free
  refine I.step (g' := s.gens) (d' := s.drawn) (t' := tk) (ch := []) (fun _ z => nomatch z) (fun b u nb _ _ e _ => k b u e nb) (fun b u nb _ _ e _ => ⟨u.slots, k b u e nb⟩) (fun b u _ e n => by rw [upd_ne (old b u e)]; exact n) (fun b u _ e => ?_)
    (fun b ys e => by rw [upd_ne (ne_of_none e fD)]; exact e) (fun b u v e => by rw [upd_ne (ne_of_none e fD)]; exact e) (fun b ps e => ⟨#[], by rw [upd_ne (ne_of_none e fD), e]; simp⟩) (fun m' hm => ?_) (fun b u e => ?_) I.bare
  · by_cases hb : b = X.env.locals
    · obtain ⟨ob, _, _, e1, _⟩ := hn'
      exact ⟨ob, by rw [hb]; exact e1⟩
    · exact ⟨u, k b u e hb⟩
  · rw [ns_one hm hn]
    exact hn'
  · by_cases hb : b = D
    · rw [hb, upd_same] at e
      cases e
      rw [hb]
      exact new
    · rw [upd_ne hb] at e
      refine (I.hok b u e).stay (fun c v hc q => k c v q ?_) (fun c q => by rw [upd_ne (ne_of_none q fD)]; exact q) fun c ys q => by rw [upd_ne (ne_of_none q fD)]; exact q
      rcases hc with z | z
      · rw [z]
        exact trL b u e
      · exact trL c _ z
theorem seq_at {X : Cx} {pins : List (Addr × Obj)} {σ : L2.St} {H : Hp} {s : Shared} {p : Addr} {xs : List V} (I : Inv X pins σ H s) (h : SqL X.K H p xs ∨ SqT X.K H p xs) :
    ∃ (its : List Value) (T : String) (o : Obj) (n : Nat), Vals xs its ∧ (T = "list" ∨ T = "tuple") ∧ s.heap.get? p = some o ∧ o.cls = .type T ∧ o.data = .seq its.toArray n ∧ xs.length ≤ sizeLine := by
  rcases h with h | h
  · obtain ⟨its, r, pl, hz⟩ := I.list h
    obtain ⟨o, ho, hc, n, hd⟩ := pl.isList
    exact ⟨its, "list", o, n, r, .inl rfl, ho, hc, hd, hz⟩
  · obtain ⟨its, r, ⟨o, ho, hc, n, hd⟩, hz⟩ := I.tuple h
    exact ⟨its, "tuple", o, n, r, .inr rfl, ho, hc, hd, hz⟩
theorem pe_sortLam {X : Cx} {T : List (Addr × Str)} {c P : Addr} {te : TE} {r : TKey} {e body : Expr} {params : Arguments} {scope : Scope} {par : Str} {p1 pos lpos kpos : Pos} (hr : Room 2 X.A) (TB : TabB X.base X.mg c P) (hcode : X.env.code = .ref c)
    (hm : (P, X.env.qual ++ "<lambda>") ∈ T) (hu : ∀ p ∈ T, p.1 = P → p.2 = X.env.qual ++ "<lambda>") (hg : Gl X "sorted") (hms : X.mg "sorted" = none) (lp : LamP X.env.scope scope par) (he : PE X e te) (hk : PKey X par body scope r)
    (hdef : defaultsOf params X.env = ([], []) := by rfl)
    (hb : ∀ (cl : List (Str × Addr)) (pm cdv ct v : Value), bindArgs (PySem.W.kla_fn "<lambda>" (X.env.qual ++ "<lambda>") params body scope cl pm cdv ct) ⟨[v], []⟩ = pure [(par, v)] := by intros; rfl)
    (h0 : starEach [e] X.env = (false, eval e X.env) :: starEach [] X.env := by rfl)
    (h1 : backTo pos (starEach [e] X.env) = (false, eval e X.env) :: backTo pos (starEach [] X.env) := by rfl) (h2 : (backTo pos (starEach [e] X.env)).any (·.1) = false := by rfl)
    (h3 : (backToKw pos (keywordEach [⟨some "key", .Lambda params body scope lpos, kpos⟩] X.env)).all (·.1.isSome) = true := by rfl) (h4 : (backToKw pos (keywordEach [⟨some "key", .Lambda params body scope lpos, kpos⟩] X.env)).any (·.1.isNone) = false := by rfl)
    (h5 : (backToKw pos (keywordEach [⟨some "key", .Lambda params body scope lpos, kpos⟩] X.env)).filterMap (·.1) = [Str.ofString "key"] := by rfl) :
    PE X (.Call (.Name "sorted" p1) [e] [⟨some "key", .Lambda params body scope lpos, kpos⟩] pos) (tSortLam X.K T te r) := by
  have hpa : PA X [e] (tCons te tNil) := pa_cons he pa_nil h0
  refine ⟨fun pins s σ H Q I h => ?_⟩
  refine wpAny_Call_Name_kw (ld_blt I hg hms (by decide +kernel : bootBuiltins "sorted" = some (.builtin "sorted")) ?_)
  refine PyProof.Rows.callWith_kw (thn (hpa.run pos pins s σ H (one1 (sortWant X.K T r σ Q)) I h) fun us s1 hs1 => ?_) h1 h2 h3 h4
  obtain ⟨vs, H1, I1, rv, hq⟩ := hs1
  obtain ⟨x, rfl, hq⟩ := one1_of hq
  obtain ⟨p, xs, ks, rfl, hsq, hlk, hT, hR, q⟩ := hq
  obtain ⟨u1, rfl, ru⟩ := vals1 rv
  cases (show u1 = Value.ref p from ru)
  rw [h5]
  show wpAny _ _ (evalAll ((do let v ← eval (.Lambda params body scope lpos) X.env; standAt pos; pure v) :: [])) _ _ s1
  refine wpAny_evalAll_cons (wpAny_bind (lam_make2 I1 TB hcode hm hu hT hdef (lp.has I1.ok) fun f c' pm ctv H2 s2 I2 eN T2 hf hfn hfs hc => wpAny_bind (wpAny_standAt (wpAny_pure (wpAny_pure ?_)))))
  show wpAny _ _ (call (.builtin "sorted") [.ref p] [(Str.ofString "key", .ref f)]) _ _ s2
  have hsq2 : SqL X.K H2 p xs ∨ SqT X.K H2 p xs := by
    rcases hsq with ((z | ⟨o, z⟩) | z) | ((z | ⟨o, z⟩) | z)
    · exact .inl (.inl (.inl (eN _ _ z (fun _ y => nomatch y))))
    · exact .inl (.inl (.inr ⟨o, eN _ _ z (fun _ y => nomatch y)⟩))
    · exact .inl (.inr z)
    · exact .inr (.inl (.inl (eN _ _ z (fun _ y => nomatch y))))
    · exact .inr (.inl (.inr ⟨o, eN _ _ z (fun _ y => nomatch y)⟩))
    · exact .inr (.inr z)
  obtain ⟨its, Ty, o, n, rI, hTy, ho, hcl, hd, hz⟩ := seq_at I2 hsq2
  have hli := rI.length
  refine PyProof.Rows.call_function_entry_kw kind_sorted plain_sorted entry_sorted (ksk_s1 _ _) ?_
  show wpAny _ _ (checkCount "sorted" 1 1 1 >>= fun _ => collect (.ref p) >>= fun vs => newList vs >>= fun l => holding [l] (call (.builtin "list.sort") [l] [(Str.ofString "key", .ref f)]) >>= fun _ => ret l) _ _ _
  refine wpAny_bind (m := checkCount "sorted" 1 1 1) (wpAny_pure (wpAny_bind (wpAny_collect_seq p hTy ho hcl hd (fun h' kp => ?_) (by rw [List.size_toArray]; omega))))
  have e1 : its.toArray.toList = its := by simp
  rw [e1]
  have I3 : Inv X pins σ H2 { s2 with heap := h', toks := s2.toks } := I2.kept kp
  obtain ⟨m, F⟩ := I3.fr
  have N := news_all (g := X.base) (h := h') (L := X.env.locals)
  have keepAll : ∀ {hh : Heap} {mm : Str → Option Value} {own : List (Addr × Obj)}, Fr X.base X.env.locals hh mm → News X.base X.env.locals hh (allNews X.base h' X.env.locals ++ own) → ∀ b ob, h'.get? b = some ob → b ≠ X.env.locals → hh.get? b = some ob := by
    intro hh mm own F' N' b ob eb nb
    cases q : X.base.get? b with
    | some ob' =>
      have := I3.bk b ob' q
      rw [eb] at this
      cases this
      exact F'.keep b _ q
    | none => exact (N' (b, ob) (List.mem_append_left _ (mem_allNews nb q eb))).1
  have hr1 : Room 1 X.A.in1 := hr.in1
  refine sort_tail (kz := ks) F N (by rw [hlk, hli]) (by rw [← hli]; exact hz) (fun i v k hv hk' hh tk own F' N' => ?_) fun hh tk out cc F' N' ko => ?_
  · have hi : i < its.length := (List.getElem?_eq_some_iff.mp hv).1
    obtain ⟨x, hx⟩ : ∃ x, xs[i]? = some x := ⟨_, List.getElem?_eq_getElem (by omega)⟩
    obtain ⟨v', hv', rx⟩ := rI.get hx
    have ev : v' = v := Option.some.inj (hv'.symm.trans hv)
    subst ev
    have nfL : f ≠ X.env.locals := fun z => by
      obtain ⟨mL, ⟨oL, _, _, eL, dL, _⟩, _⟩ := I2.loc
      rw [← z, hf] at eL
      cases eL
      cases dL
    have hff := keepAll F' N' f _ (kp _ _ hf) nfL
    obtain ⟨⟨oc, cv, ct, d1, d2, d3⟩, _, _⟩ := I2.hok c' _ hc
    have hcc := keepAll F' N' c' _ (kp _ _ d1) (ne_of_none hc I2.free)
    refine wpAny_call (PySem.W.kla_callFunE hr.in1.in1.depth hff rfl lp.co lp.gen rfl ⟨c', oc, cv, ct, rfl, hcc, d2, d3⟩ ?_)
    rw [hb]
    refine wpAny_pure (wpAny_newFunctionEnv lp.cell (fun y hy => ?_) (fun h₁ hns hsb => ⟨(I2.ok.mod.nolimit.keeps F'.keep).fresh _ hsb, ?_⟩) lp.kind)
    · rw [List.mem_singleton.mp hy]
      exact lp.par
    · have kp1 : ∀ b ob, hh.get? b = some ob → h₁.get? b = some ob := fun b ob e => hsb.extBut b ob (Nat.ne_of_lt (Heap.lt_size e)) (Heap.get?_push_of_some _ e)
      show codeAny _ _ (.expr body (PySem.W.envX (X.env.qual ++ "<lambda>") scope hh.objs.size f (.ref c') (cloFrom X.env.cells scope.names []))) _ _
      refine PySem.W.kla_codeExpr (wpAny_mono (hk.run pins _ σ H2 x v' k I3 rx (hR H2 eN i x k hx hk') _ hh.objs.size f c' h₁ (tk + 1) (fun b ob e nb => kp1 b ob (keepAll F' N' b ob e nb)) hns) (fun v s' hq => ?_) fun _ _ z => z.elim)
      obtain ⟨t, tk', ev, es⟩ := hq
      exact ⟨h₁, tk', t, es, ev, ⟨F'.ns.keeps kp1, fun b ob e => kp1 b ob (F'.keep b ob e), F'.above⟩, fun z hz => ⟨kp1 _ _ (N' z hz).1, (N' z hz).2⟩⟩
  · obtain ⟨ys, r2, ey⟩ := out_of (by rw [hlk, hli]) rI ko
    have lo : ys.length = xs.length := by
      rw [ey, List.length_map, (isort_perm _).length_eq, List.length_zip, hlk, Nat.min_self]
    have at1 := (N' _ List.mem_cons_self).1
    have I4 := inv_laidL (D := h'.objs.size) (tk := tk) (o := .lst ys) I3 F.ns F'.ns (fun b ob e nb => keepAll (own := []) F' (fun z hz => N' z (List.mem_cons_of_mem _ (by simpa using hz))) b ob e nb) (Nat.le_refl _)
      ⟨by rw [lo]; exact hz, out.toList, cc, r2, by rw [Array.toArray_toList]; exact at1⟩
    refine ⟨_, rfl, .ref h'.objs.size, _, I4, rfl, ?_⟩
    rw [ey]
    exact q H2 h'.objs.size eN T2 (I3.hok.fresh (Nat.le_refl _))
end OwnR

set_option Elab.async false
set_option linter.all false
set_option maxRecDepth 100000
set_option maxHeartbeats 2000000
namespace OwnR
open PySem PySem.Spec PyProof.Rows L2 LamX
/-! ### two bodies of keys: d[y], d captured; y[n] of a tuple -/
/-- what is read of a tracked object stays where all but the frame is kept -/
theorem ok_keepL {X : Cx} {pins : List (Addr × Obj)} {σ : L2.St} {H : Hp} {s : Shared} {h' : Heap} {b : Addr} {u : HO} (I : Inv X pins σ H s) (k : ∀ b o, s.heap.get? b = some o → b ≠ X.env.locals → h'.get? b = some o) (e : H b = some u) : ObjOk X.prog X.w H h' b u := by
  refine (I.hok b u e).stay (fun c v hc q => k c v q ?_) (fun _ q => q) fun _ _ q => q
  rcases hc with z | z
  · rw [z]
    exact ne_of_none e I.free
  · exact ne_of_none z I.free
theorem rd_keepL {X : Cx} {pins : List (Addr × Obj)} {σ : L2.St} {H : Hp} {s : Shared} {h' : Heap} {b : Addr} {u : HO} (I : Inv X pins σ H s) (k : ∀ b o, s.heap.get? b = some o → b ≠ X.env.locals → h'.get? b = some o) (e : Rd H b u) : ObjOk X.prog X.w H h' b u := by
  rcases e with e | ⟨o, e⟩
  · exact ok_keepL I k e
  · exact (ok_keepL I k e).2
def keyDict (j : Nat) : TKey := fun σ H x k => ∃ (a : Addr) (kvs : List (Key × V)) (key : Key), σ[j]? = some (some (.ref a)) ∧ Rd H a (.dK kvs) ∧ x = kV key ∧ valV kvs key = some (.int k)
theorem pk_dict {X : Cx} {par d : Str} {scope : Scope} {p1 p2 p3 : Pos} {j : Nat} (hN : X.N[j]? = some d) (hd : (d, NameKind.free) ∈ scope.names) (hl : scope.names.lookup d = some .free) (lp : LamP X.env.scope scope par)
    (hv : Vis X.env.scope d) (n1 : (d == ("__debug__" : Str)) = false := by decide) (n2 : (par == ("__debug__" : Str)) = false := by decide) (n3 : (d == ("__classdict__" : Str)) = false := by decide) (hsl : NoSl (.Name par p2) := by exact fun _ _ => rfl) :
    PKey X par (.Subscript (.Name d p1) (.Name par p2) p3) scope (keyDict j) := by
  refine ⟨fun pins s σ H x u k I rx hr A L' f c' h1 tk kp hns => ?_⟩
  obtain ⟨a, kvs, key, hs, hrd, ex, hval⟩ := hr
  subst ex
  have hfree := lp.has I.ok
  obtain ⟨m, hm, hlook⟩ := I.loc
  obtain ⟨w', rw', lk⟩ := hlook j d (.ref a) hN hs hv
  cases (show w' = Value.ref a from rw')
  have kd : X.env.scope.names.lookup d = some .cell ∨ X.env.scope.names.lookup d = some .free := lp.free _ hd rfl
  obtain ⟨c, hc, hcell⟩ : ∃ c, X.env.cells.lookup d = some c ∧ s.heap.IsCell c (some (.ref a)) := by
    rcases lk with ⟨k1, _⟩ | ⟨_, c, hc, z⟩
    · have k1 : X.env.scope.names.lookup d = some .local := k1
      rcases kd with k2 | k2 <;> rw [k2] at k1 <;> cases k1
    · exact ⟨c, hc, z⟩
  have hcell' : h1.IsCell c (some (.ref a)) := by
    obtain ⟨o, ho, hd'⟩ := hcell
    exact ⟨o, kp c o ho (I.cne d c hc), hd'⟩
  have hclo : (cloFrom X.env.cells scope.names []).lookup d = some c := NdefX.clo_has hfree hd hc
  obtain ⟨z, hsm, vs, rel, dd⟩ := (show ObjOk X.prog X.w H h1 a (.dK kvs) from rd_keepL I kp hrd)
  obtain ⟨w2, hw, rw2⟩ := RelO.some_of (v := .int k) (o := valueAt vs key) (by rw [← hval]; exact rel.val key)
  obtain ⟨t, rfl⟩ := (show ∃ t, w2 = Value.int k t from rw2)
  have tdict : ∀ tk', ({ s with heap := h1, toks := tk' } : Shared).TypeIs (.ref a) "dict" := fun tk' => (dd.mapOf).typeIs
  refine subD_of PySem.F.slot_dict_getitem.lookup hsl (wpAny_Name (wpAny_loadName_free lp.kind hl hclo hcell' ?_ n3) n1)
  refine wpAny_Name (wpAny_loadName_local (v := u) lp.kind lp.par hns ?_ ?_) n2
  · show ([(par, u)] : List (Str × Value)).reverse.lookup par = some u
    simp [List.lookup]
  · exact ⟨tdict _, wpAny_getItem_of (kV_is rx) dd.mapOf hw ⟨t, _, rfl, rfl⟩⟩
def keyItem (K : PySem.W.Frag) (n : Nat) : TKey := fun σ H x k => ∃ (t : Addr) (ys : List V), x = .ref t ∧ SqT K H t ys ∧ ys[n]? = some (.int k)
theorem pk_item {X : Cx} {par : Str} {scope : Scope} {p1 p2 p3 : Pos} {n j : Nat} (lp : LamP X.env.scope scope par) (hn : n < 1000) (n2 : (par == ("__debug__" : Str)) = false := by decide) :
    PKey X par (.Subscript (.Name par p1) (.Constant (.int (n : Int)) j p2) p3) scope (keyItem X.K n) := by
  refine ⟨fun pins s σ H x u k I rx hr A L' f c' h1 tk kp hns => ?_⟩
  obtain ⟨t, ys, ex, hsq, hy⟩ := hr
  subst ex
  cases (show u = Value.ref t from rx)
  have hit : ∃ its : List Value, Vals ys its ∧ IsTup h1 t its.toArray ∧ ys.length ≤ sizeLine := by
    rcases hsq with z | z
    · obtain ⟨hz, its, r, it⟩ := (show ObjOk X.prog X.w H h1 t (.tup ys) from rd_keepL I kp z)
      exact ⟨its, r, it, hz⟩
    · obtain ⟨its, r, ⟨o, ho, hc, n', hd⟩, hz⟩ := I.tuple (.inr z)
      refine ⟨its, r, ⟨o, kp _ _ ho ?_, hc, n', hd⟩, hz⟩
      intro zz
      obtain ⟨mL, ⟨oL, _, _, eL, dL, _⟩, _⟩ := I.loc
      rw [← zz, ho] at eL
      cases eL
      rw [hd] at dL
      cases dL
  obtain ⟨its, r, it, hz⟩ := hit
  obtain ⟨w2, hw, rw2⟩ := r.get hy
  obtain ⟨t', rfl⟩ := (show ∃ t, w2 = Value.int k t from rw2)
  have hl := r.length
  have hlt : n < ys.length := (List.getElem?_eq_some_iff.mp hy).1
  have hn63 := line63
  refine Subscript_ (wpAny_Name (wpAny_loadName_local lp.kind lp.par hns (v := Value.ref t) ?_ (wpAny_Constant_int ?_)) n2)
  · show ([(par, Value.ref t)] : List (Str × Value)).reverse.lookup par = some (Value.ref t)
    simp [List.lookup]
  · exact subscriptTail_builtinR (x := Value.int k t') it.typeIs slot_tuple_getitem.lookup
      (getItem_tuple (j := n) (Q := fun r s' => r = Value.int k t' ∧ ∃ t1 tk', r = Value.int k t1 ∧ s' = { s with heap := h1, toks := tk' }) it (by omega) (by omega)
        (by rw [List.size_toArray, ← hl, seqIndex_of (by omega) (by omega)]; simp) (by simpa using hw) ⟨rfl, t', _, rfl, rfl⟩) rfl
end OwnR

set_option Elab.async false
set_option linter.all false
set_option maxRecDepth 100000
set_option maxHeartbeats 2000000
namespace OwnR
open PySem PySem.Spec PyProof.Rows L2
section
variable {X : Cx} {CX : CXT} {k : Nat} {g C : Addr} {sp : Sp} {E : XK}
/-! ### y in x, y not in x: x an instance of C, which has __contains__ -/
def rInO (C : Addr) (sp : Sp) (E : XK) (neg : Bool) : R2 := fun x y H Q => ∃ a dx fs, y = .ref a ∧ H a = some (.ins C dx fs) ∧ sp [.ref a, x] H (fun z H' => ∃ b, z = .bl b ∧ Q (.bl (b != neg)) H') E
theorem op_inO (hs : PySem.W.findIn X.K (.ref C) "__contains__" = some (some (.ref g))) (hf : PySem.W.isFn X.K (.ref g) = true) (F : FnR X.prog X.w X.K X.mg X.base CX k g sp) (hr : Room k X.A) (hx : Passes CX X E) : OpR X (compareOp .In) (rInO C sp E false) := by
  intro pins s σ H x y v u Q I rx ry h
  obtain ⟨a, dx, fs, rfl, ha, q⟩ := h
  cases (show u = Value.ref a from ry)
  obtain ⟨ox, od, J, hd⟩ := StX.insC_at I (.inr ⟨dx, fs, ha⟩)
  obtain ⟨m, hF⟩ := I.fr
  refine PySem.W.in_K hF I.ok.mod.kin J hs hf (thn (wpAny_call (run_fnR (us := [.ref a, v]) (vs := [.ref a, x]) F hr hx I (.cons rfl (.cons rx .nil)) q)) fun w' s' hq => ?_)
  obtain ⟨z, H', I', rz, b, ez, qz⟩ := hq
  subst ez
  cases (show w' = Value.bool b from rz)
  exact wpAny_truthy_bool ⟨.bl b, H', I', rfl, by simpa using qz⟩
theorem op_notInO (hs : PySem.W.findIn X.K (.ref C) "__contains__" = some (some (.ref g))) (hf : PySem.W.isFn X.K (.ref g) = true) (F : FnR X.prog X.w X.K X.mg X.base CX k g sp) (hr : Room k X.A) (hx : Passes CX X E) : OpR X (compareOp .NotIn) (rInO C sp E true) := by
  intro pins s σ H x y v u Q I rx ry h
  obtain ⟨a, dx, fs, rfl, ha, q⟩ := h
  cases (show u = Value.ref a from ry)
  obtain ⟨ox, od, J, hd⟩ := StX.insC_at I (.inr ⟨dx, fs, ha⟩)
  obtain ⟨m, hF⟩ := I.fr
  refine PySem.W.notIn_K hF I.ok.mod.kin J hs hf (thn (wpAny_call (run_fnR (us := [.ref a, v]) (vs := [.ref a, x]) F hr hx I (.cons rfl (.cons rx .nil)) q)) fun w' s' hq => ?_)
  obtain ⟨z, H', I', rz, b, ez, qz⟩ := hq
  subst ez
  cases (show w' = Value.bool b from rz)
  exact wpAny_truthy_bool ⟨.bl (!b), H', I', rfl, by simpa using qz⟩
/-! ### o[i]: o an instance of C, which has __getitem__ -/
def tSubO (C : Addr) (sp : Sp) (E : XK) (to ti : TE) : TE := fun σ H Q => to σ H fun x H1 => ti σ H1 fun y H2 => ∃ a dx fs, x = .ref a ∧ H2 a = some (.ins C dx fs) ∧ sp [.ref a, y] H2 Q E
theorem pe_subO {o i : Expr} {pos : Pos} {to ti : TE} (hs : PySem.W.findIn X.K (.ref C) "__getitem__" = some (some (.ref g))) (hf : PySem.W.isFn X.K (.ref g) = true) (hfi : PySem.W.fnIn X.K g = true) (F : FnR X.prog X.w X.K X.mg X.base CX k g sp) (hr : Room (k + 1) X.A) (hx : Passes CX X E)
    (ho : PE X o to) (hi : PE X i ti) (hsl : ∀ a v, subscripted i true (.ref a) v = runValue (.builtin "lifetime.subscript" ⟨[.ref a, v], []⟩) := by intros; with_unfolding_all rfl) : PE X (.Subscript o i pos) (tSubO C sp E to ti) := by
  refine ⟨fun pins s σ H Q I h => ?_⟩
  refine Subscript_ (thn (ho.run pins s σ H _ I h) fun u s1 ⟨x, H1, I1, rx, q1⟩ => thn (hi.run pins s1 σ H1 _ I1 q1) fun iv s2 ⟨y, H2, I2, ry, a, dx, fs, ex, ha, q⟩ => ?_)
  subst ex
  cases (show u = Value.ref a from rx)
  obtain ⟨ox, od, J, hd⟩ := StX.insC_at I2 (.inr ⟨dx, fs, ha⟩)
  obtain ⟨m, hF⟩ := I2.fr
  exact PySem.W.sub_K hF I2.ok.mod.kin J hs hfi hf (wpAny_call (SlX.run_at (us := [.ref a, iv]) (ws := [.ref a, y]) F hr.in1 I2.env0.in1 hx I2 (.cons rfl (.cons ry .nil)) q)) (hsl a iv)
/-! ### len(o) -/
def rLenO (C : Addr) (sp : Sp) (E : XK) : List V → Hp → VK → Prop := fun xs H Q => ∃ a dx fs, xs = [V.ref a] ∧ H a = some (.ins C dx fs) ∧ sp [.ref a] H (fun z H' => ∃ n : Nat, z = .int (n : Int) ∧ n ≤ sizeLine ∧ Q (.int (n : Int)) H') E
theorem call_lenO (hs : PySem.W.findIn X.K (.ref C) "__len__" = some (some (.ref g))) (hf : PySem.W.isFn X.K (.ref g) = true) (F : FnR X.prog X.w X.K X.mg X.base CX k g sp) (hr : Room (k + 1) X.A) (hx : Passes CX X E) : CallR X (.builtin "len") (rLenO C sp E) := by
  intro pins s σ H xs us Q I r h
  obtain ⟨a, dx, fs, rfl, ha, q⟩ := h
  obtain ⟨u, rfl, ru⟩ := r.one
  cases (show u = Value.ref a from ru)
  obtain ⟨ox, od, J, hd⟩ := StX.insC_at I (.inr ⟨dx, fs, ha⟩)
  obtain ⟨m, hF⟩ := I.fr
  refine PySem.W.len_K hF I.ok.mod.kin J hs hf (thn (wpAny_call (SlX.run_at (us := [.ref a]) (ws := [.ref a]) F hr.in1 I.env0.in1 hx I (.cons rfl .nil) q)) fun w' s' hq => ?_)
  obtain ⟨z, H', I', rz, n, ez, hn, qz⟩ := hq
  subst ez
  obtain ⟨t, e⟩ := (show ∃ t, w' = Value.int (n : Int) t from rz)
  cases e
  have := line63
  exact ⟨⟨by omega, by omega⟩, .int (n : Int), H', I'.tok _, ⟨_, rfl⟩, qz⟩
/-! ### a + b, both of C, which has __add__ -/
def rAddO (C : Addr) (sp : Sp) (E : XK) : R2 := fun x y H Q => ∃ a dx fs b dy gs, x = .ref a ∧ y = .ref b ∧ H a = some (.ins C dx fs) ∧ H b = some (.ins C dy gs) ∧ sp [.ref a, .ref b] H Q E
theorem op_addO (hc : PySem.W.selfFirst X.K C = true) (hs : PySem.W.findIn X.K (.ref C) (PySem.dunder (Operator.info .Add).2) = some (some (.ref g))) (hf : PySem.W.isFn X.K (.ref g) = true) (F : FnR X.prog X.w X.K X.mg X.base CX k g sp) (hr : Room k X.A) (hx : Passes CX X E) : OpR X (binaryOp .Add) (rAddO C sp E) := by
  intro pins s σ H x y v u Q I rx ry h
  obtain ⟨a, dx, fs, b, dy, gs, rfl, rfl, ha, hb, q⟩ := h
  cases (show v = Value.ref a from rx)
  cases (show u = Value.ref b from ry)
  obtain ⟨ox, od, J, hd⟩ := StX.insC_at I (.inr ⟨dx, fs, ha⟩)
  obtain ⟨oy, od', J', hd'⟩ := StX.insC_at I (.inr ⟨dy, gs, hb⟩)
  obtain ⟨m, hF⟩ := I.fr
  refine PySem.W.binop_K (op := .Add) hF I.ok.mod.kin J J'.type hc hs hf (thn (wpAny_call (run_fnR (us := [.ref a, .ref b]) (vs := [.ref a, .ref b]) F hr hx I (.cons rfl (.cons rfl .nil)) q)) fun w' s' hq => ?_)
  obtain ⟨z, H', I', rz, qz⟩ := hq
  exact SlX.cmpback rz ⟨z, H', I', rz, qz⟩
/-! ### x(*y), x a slot that holds the class C -/
def tMakeLS (K : PySem.W.Frag) (C : Addr) (sp : Sp) (E : XK) (tf te : TE) : TE := fun σ H Q => tf σ H fun z H0 => z = .ref C ∧ te σ H0 fun y H1 => ∃ a xs, y = V.ref a ∧ (SqT K H1 a xs ∨ SqL K H1 a xs) ∧ ∀ x dx, H1 x = none → H1 dx = none → dx ≠ x →
  sp (V.ref x :: xs) (upd (upd H1 dx (.own x)) x (.ins C dx [])) (fun v H2 => v = .non ∧ Q (.ref x) H2) E
theorem pe_makeLS {x : Str} {e : Expr} {p p2 pos : Pos} {tf te : TE} {f : Addr} (M : Mk X.K C f) (F : FnR X.prog X.w X.K X.mg X.base CX k f sp) (hr : Room (k + 1) X.A) (hx : Passes CX X E) (hf : PE X (.Name x p) tf) (he : PE X e te)
    (hst : starEach [.Starred e p2] X.env = [(true, eval e X.env)] := by rfl) : PE X (.Call (.Name x p) [.Starred e p2] [] pos) (tMakeLS X.K C sp E tf te) := by
  refine ⟨fun pins s σ H Q I h => ?_⟩
  refine wpAny_Call_Name_kw (thn (hf.run pins s σ H _ I h) fun u s0 ⟨z, H0, I0, rz, ez, q0⟩ => ?_)
  subst ez
  cases (show u = Value.ref C from rz)
  refine PySem.W.callWith_S (h₀ := X.base) I.ok.mod.kin M.kp (thn (he.run pins s0 σ H0 _ I0 q0) fun v s1 ⟨y, H1, I1, ry, a, xs, ey, hxs, q⟩ => ?_) hst
  subst ey
  cases (show v = Value.ref a from ry)
  exact StX.star_any I1 hxs fun us s2 I2 rv => ⟨I2.kIn, StX.run_makeR M F hr hx I2 rv q⟩
end
/-- x(*y), x a class of the module -/
theorem pe_makeGS {X : Cx} {CX : CXT} {k : Nat} {C : Addr} {sp : Sp} {E : XK} {x : Str} {e : Expr} {p p2 pos : Pos} {te : TE} {f : Addr} (M : Mk X.K C f) (F : FnR X.prog X.w X.K X.mg X.base CX k f sp) (hr : Room (k + 1) X.A) (hx : Passes CX X E) (hg : Gl X x) (hm : X.mg x = some (.ref C)) (he : PE X e te)
    (hdb : (x == ("__debug__" : Str)) = false := by decide) (hst : starEach [.Starred e p2] X.env = [(true, eval e X.env)] := by rfl) : PE X (.Call (.Name x p) [.Starred e p2] [] pos) (tMakeLS X.K C sp E (tC (.ref C)) te) :=
  pe_makeLS M F hr hx (pe_glob hg hm rfl hdb) he hst
/-! ### xs[i] op= e, xs a list -/
theorem pg_list {X : Cx} : PGet X (rIxL X.K) := by
  intro pins s σ H x y v u Q I rx ry h
  obtain ⟨p, xs, i, z, rfl, rfl, hq, he, q⟩ := h
  cases (show v = Value.ref p from rx)
  obtain ⟨t, rfl⟩ := (show ∃ t, u = Value.int i t from ry)
  obtain ⟨its, r, pl, hz⟩ := I.list hq
  obtain ⟨j, h1, h2, h3, h4, h5⟩ := atI_get he
  obtain ⟨w, ew, rw'⟩ := r.get h2
  have hl := r.length
  have hn := line63
  have fin : EP X pins σ Q w s := ⟨z, H, I, rw', q⟩
  by_cases h0 : 0 ≤ i
  · have hj : i.toNat = j := by
      rw [seqIndex_of h0 h5] at h1
      exact Option.some.inj h1
    exact wpAny_getItem_list pl.isList h0 (by omega) (by rw [hj]; simpa using ew) fin
  · have hj : (i + (its.toArray.size : Int)).toNat = j := by
      rw [seqIndex_neg (by omega) h4] at h1
      rw [List.size_toArray, ← hl]
      exact Option.some.inj h1
    exact wpAny_getItem_list_neg pl.isList (by omega) (by rw [List.size_toArray] <;> omega) (by omega) (by rw [hj]; simpa using ew) fin
end OwnR

set_option Elab.async false
set_option linter.all false
set_option maxRecDepth 100000
namespace Sl
open PySem L2
def top (i : Nat) : Stmt := PySem.Challenge.pw_slowleaders_k06_chains_of_changes.main.body.getD i (.Pass ⟨0, 0, 0, 0⟩)
abbrev sRoadError : Stmt := top 2
abbrev sInvalidRoad : Stmt := top 3
abbrev sInvalidRoadInit : Stmt := inClass sInvalidRoad 0
abbrev sInvalidCars : Stmt := top 4
abbrev sInvalidCarsInit : Stmt := inClass sInvalidCars 0
abbrev sInvalidNumber : Stmt := top 5
abbrev sUnknownCar : Stmt := top 6
abbrev sUnknownCarInit : Stmt := inClass sUnknownCar 0
abbrev sUnknownSection : Stmt := top 7
abbrev sUnknownSectionInit : Stmt := inClass sUnknownSection 0
abbrev sIsNumber : Stmt := top 13
abbrev sIsName : Stmt := top 14
abbrev sIsCar : Stmt := top 15
abbrev sCheckCars : Stmt := top 16
abbrev sCheckKnown : Stmt := top 17
abbrev sInOrder : Stmt := top 19
abbrev sFollow : Stmt := top 20
abbrev sDriveAll : Stmt := top 21
abbrev sDrive : Stmt := top 22
abbrev sDInit : Stmt := inClass sDrive 0
abbrev sDCheckCar : Stmt := inClass sDrive 1
abbrev sDCheckPlace : Stmt := inClass sDrive 2
abbrev sDCheckSection : Stmt := inClass sDrive 3
abbrev sDGet : Stmt := inClass sDrive 4
abbrev sDCall : Stmt := inClass sDrive 5
abbrev sDHas : Stmt := inClass sDrive 6
abbrev sDLen : Stmt := inClass sDrive 7
abbrev sDOrderAt : Stmt := inClass sDrive 9
abbrev sDLeader : Stmt := inClass sDrive 10
abbrev sDRowsOf : Stmt := inClass sDrive 11
abbrev sDOvertakings : Stmt := inClass sDrive 12
abbrev sDLosses : Stmt := inClass sDrive 13
abbrev sWithout : Stmt := top 24
abbrev sChanged : Stmt := top 25
abbrev sChainBetween : Stmt := top 26
abbrev sShortestChain : Stmt := top 27
abbrev sIsSection : Stmt := top 34
abbrev sUnitsOf : Stmt := top 35
abbrev sRoad : Stmt := top 36
abbrev sRInit : Stmt := inClass sRoad 0
abbrev sROfUnits : Stmt := inClass sRoad 1
abbrev sRSections : Stmt := inClass sRoad 2
abbrev sRUnits : Stmt := inClass sRoad 3
abbrev sRWidened : Stmt := inClass sRoad 4
abbrev sRLen : Stmt := inClass sRoad 5
abbrev sRGet : Stmt := inClass sRoad 6
abbrev sRHas : Stmt := inClass sRoad 8
abbrev sRAdd : Stmt := inClass sRoad 9
abbrev sRMul : Stmt := inClass sRoad 10
abbrev sREq : Stmt := inClass sRoad 11
abbrev sDice : Stmt := top 38
abbrev sNext : Stmt := top 39
abbrev sLike : Stmt := top 40
abbrev sPick : Stmt := top 41
abbrev sTold : Stmt := top 42
abbrev sParts : Stmt := top 43
abbrev sMade : Stmt := top 44
abbrev sCars : Stmt := top 45
abbrev sSection : Stmt := top 46
abbrev sDriven : Stmt := top 47
abbrev sRest : Stmt := top 48
abbrev sChain : Stmt := top 49
abbrev sLongChain : Stmt := top 50
abbrev sLaw : Stmt := top 51
end Sl

set_option Elab.async false
set_option linter.all false
set_option maxRecDepth 100000
set_option maxHeartbeats 1000000
namespace Sl
open PySem PySem.Spec L2 OwnR
theorem yes_of {σ : L2.St} {H : Hp} {A S : Hp → Prop} (h : A H) : tYes σ H (fun b H3 => if b = true then A H3 else S H3) := by
  show (if true = true then A H else S H)
  rw [if_pos rfl]
  exact h
/-- the module's names that the program asks: built-ins that stand, its constants -/
structure Mg (mg : Str → Option Value) : Prop where
  isinstance : mg "isinstance" = none
  int : mg "int" = none
  bool : mg "bool" = none
  str : mg "str" = none
  tuple : mg "tuple" = none
  len : mg "len" = none
  all : mg "all" = none
  enumerate : mg "enumerate" = none
  sorted : mg "sorted" = none
  list : mg "list" = none
  range : mg "range" = none
  sum : mg "sum" = none
  mostCars : ∃ t, mg "MOST_CARS" = some (.int 10 t)
  longestName : ∃ t, mg "LONGEST_NAME" = some (.int 8 t)
  latestStart : ∃ t, mg "LATEST_START" = some (.int 1000000 t)
  slowestPace : ∃ t, mg "SLOWEST_PACE" = some (.int 60 t)
  mostSections : ∃ t, mg "MOST_SECTIONS" = some (.int 12 t)
  longestSection : ∃ t, mg "LONGEST_SECTION" = some (.int 99 t)
theorem boot_isinstance : bootBuiltins "isinstance" = some (.builtin "isinstance") := by decide +kernel
theorem boot_tInt : bootBuiltins "int" = some (.type "int") := by decide +kernel
theorem boot_tBool : bootBuiltins "bool" = some (.type "bool") := by decide +kernel
theorem boot_tStr : bootBuiltins "str" = some (.type "str") := by decide +kernel
theorem boot_tTuple : bootBuiltins "tuple" = some (.type "tuple") := by decide +kernel
theorem boot_all : bootBuiltins "all" = some (.builtin "all") := by decide +kernel
section
variable {P : Program} {w : World} {K : PySem.W.Frag} {mg : Str → Option Value} {base : Heap}
/-! ### is_number of an int -/
def spIsNumber : Sp := fun vs H Q _ => ∃ i lo hi : Int, vs = [.int i, .int lo, .int hi] ∧ Q (.bl (decide (lo ≤ i) && decide (i ≤ hi))) H
theorem scIsNumber : FnScope ["value", "least", "most"] ["value", "least", "most"] (defScope sIsNumber) := ⟨rfl, rfl, rfl, by decide +kernel, rfl, by decide +kernel, by decide +kernel⟩
theorem ok_isNumber {f : Addr} {fd : FuncData} (F : Fun K "is_number" "is_number" sIsNumber f fd) (M : Mg mg) : FnOk P w K mg base CX0 1 f fd ["value", "least", "most"] spIsNumber := by
  refine F.ok scIsNumber (fun vs H Q E h => ?_) (fun cdv A outer s H vs Q E hr h => ?_)
  · obtain ⟨i, lo, hi, rfl, _⟩ := h
    rfl
  · obtain ⟨i, lo, hi, rfl, k⟩ := h
    refine ⟨_, pss_one (ps_ret (pe_and (pe_callB call_isi (by rfl) M.isinstance boot_isinstance (pa_cons (pv 0) (pa_cons (pe_bltn (v := .ty "int") (by rfl) M.int boot_tInt rfl) pa_nil)))
      (pe_and (pe_not (pe_callB call_isi (by rfl) M.isinstance boot_isinstance (pa_cons (pv 0) (pa_cons (pe_bltn (v := .ty "bool") (by rfl) M.bool boot_tBool rfl) pa_nil))))
        (pe_one (pe_chain op_le op_le (pv 1) (pv 0) (pv 2)))))), ?_⟩
    refine ⟨_, rfl, _, _, _, _, true, rfl, .ty _, .base (.int i), kit_ty (by decide +kernel), true, rfl, iteT ?_⟩
    refine ⟨_, rfl, _, _, _, _, false, rfl, .ty _, .base (.int i), kit_ty (by decide +kernel), false, rfl, true, rfl, iteT ?_⟩
    refine ⟨_, rfl, _, rfl, lo, i, rfl, rfl, _, rfl, ?_⟩
    by_cases h1 : lo ≤ i
    · rw [decide_eq_true h1] at k ⊢
      exact iteT ⟨_, rfl, i, hi, rfl, rfl, by simpa using k⟩
    · rw [decide_eq_false h1] at k ⊢
      exact iteF (by simpa using k)
theorem lt_one (a b : Nat) : decide ([a] < [b]) = decide (a < b) := by
  rw [decide_eq_decide]
  simp [List.cons_lt_cons_iff]
/-! ### is_name of a text that is a name -/
def NameOk (z : Str) : Prop := 1 ≤ z.length ∧ z.length ≤ 8 ∧ ∀ c ∈ z.cps.toList, 97 ≤ c ∧ c ≤ 122
def spIsName : Sp := fun vs H Q _ => ∃ z : Str, vs = [.str z] ∧ NameOk z ∧ ∀ H', Same H H' → Q (.bl true) H'
theorem scIsName : FnScope ["value", "letter"] ["value"] (defScope sIsName) := ⟨rfl, rfl, rfl, by decide +kernel, rfl, by decide +kernel, by decide +kernel⟩
theorem ok_isName {f : Addr} {fd : FuncData} (F : Fun K "is_name" "is_name" sIsName f fd) (M : Mg mg) : FnOk P w K mg base CX0 1 f fd ["value"] spIsName := by
  obtain ⟨t8, M8⟩ := M.longestName
  refine F.ok scIsName (fun vs H Q E h => ?_) (fun cdv A outer s H vs Q E hr h => ?_)
  · obtain ⟨z, rfl, _⟩ := h
    rfl
  · obtain ⟨z, rfl, ⟨z1, z8, zc⟩, k⟩ := h
    have nd := scIsName.nd
    refine ⟨_, pss_cons (ps_if (PW.pt (pw_or (pt_not (pt_val (pe_callB call_isi (by rfl) M.isinstance boot_isinstance (pa_cons (pv 0) (pa_cons (pe_bltn (v := .ty "str") (by rfl) M.str boot_tStr rfl) pa_nil)))))
        (pw_or1 (pt_not (pt_chain op_le op_le pe_int (pe_callB call_len_str (by rfl) M.len boot_len (pa_cons (pv 0) pa_nil)) (pe_glob (v := .int 8) (by rfl) M8 ⟨_, rfl⟩)))))) (pss_one (ps_ret pe_bl)) pss_nil)
      (pss_one (ps_ret (pe_callB (cr_all rfl) (by rfl) M.all boot_all (pa_cons (pe_lc (own := [("letter", 1)]) (g := gName 1) (tt := tYes) (by rfl) nd (pi_str (pv 0)) (blkOk_by (N := ["value", "letter"]) (sc := defScope sIsName) (by decide +kernel))
        (fun _ _ _ _ _ => pg_name (i := 1) nd rfl (Or.inl rfl)) (fun _ _ _ _ _ => pts_nil) (fun _ _ _ _ _ => pe_chain op_le_str op_le_str pe_str (pv 1) pe_str)) pa_nil)))), ?_⟩
    have hz : z.length ≤ sizeLine := Nat.le_trans z8 (by decide)
    have e1 : decide ((1 : Int) ≤ (z.length : Nat)) = true := decide_eq_true (by omega)
    have e8 : decide (((z.length : Nat) : Int) ≤ 8) = true := decide_eq_true (by omega)
    refine ⟨_, rfl, _, _, _, _, true, rfl, .ty _, .base (.str z), kit_ty (by decide +kernel), true, rfl, iteF ?_⟩
    refine ⟨_, rfl, z, rfl, hz, 1, (z.length : Nat), rfl, rfl, _, rfl, ?_⟩
    rw [e1]
    refine iteT ⟨(z.length : Nat), 8, rfl, rfl, true, congrArg V.bl e8, iteF ?_⟩
    refine ⟨_, rfl, z, rfl, fun D hD => lc_it walk_str (fun i H1 => (∀ b o, H b = some o → H1 b = some o) ∧ H1 D = some (.lst (List.replicate i (.bl true)))) ⟨fun b o e => by rw [upd_ne (ne_of_none e hD)]; exact e, upd_same⟩ (fun _ _ _ _ => True.intro) ?_ ?_⟩
    · rintro i x H1 H2 hi ⟨hk, hl⟩ ⟨e, c, hc, ex⟩
      subst e ex
      have hm : c ∈ z.cps.toList := by
        rw [Array.mem_toList_iff]
        exact Array.mem_of_getElem? hc
      have g1 : (!decide ((⟨#[c]⟩ : Str).cps.toList < ("a" : Str).cps.toList)) = true := by
        have e2 : ("a" : Str).cps.toList = [97] := by decide +kernel
        rw [e2]
        have := (zc c hm).1
        show (!decide (([c] : List Nat) < [97])) = true
        rw [lt_one, decide_eq_false (by omega)]
        rfl
      have g2 : (!decide (("z" : Str).cps.toList < (⟨#[c]⟩ : Str).cps.toList)) = true := by
        have e2 : ("z" : Str).cps.toList = [122] := by decide +kernel
        rw [e2]
        have := (zc c hm).2
        show (!decide (([122] : List Nat) < [c])) = true
        rw [lt_one, decide_eq_false (by omega)]
        rfl
      refine ⟨rfl, ?_⟩
      refine yes_of ?_
      refine ⟨_, rfl, _, _, rfl, rfl, true, congrArg V.bl g1, ?_⟩
      refine iteT ?_
      refine ⟨_, _, rfl, rfl, ?_⟩
      rw [g2]
      refine ⟨_, hl, ?_, fun b o e => by rw [upd_ne (ne_of_none e hD)]; exact hk b o e, ?_⟩
      · rw [List.length_replicate]
        have : z.cps.size ≤ 8 := z8
        exact Nat.lt_of_lt_of_le (Nat.lt_of_lt_of_le hi this) (by decide)
      · rw [upd_same, ← List.replicate_succ']
    · rintro H1 ⟨hk, hl⟩
      refine ⟨D, List.replicate z.cps.size true, rfl, ?_, ?_⟩
      · rw [List.map_replicate]
        exact SqL.of hl
      · have e3 : (List.replicate z.cps.size true).all id = true := by simp
        rw [e3]
        exact k H1 hk
end
end Sl

set_option Elab.async false
set_option linter.all false
set_option maxRecDepth 100000
set_option maxHeartbeats 1000000
namespace Sl
open PySem PySem.Spec L2 OwnR
/-- a def of the module, as callers want it -/
structure Fb (K : PySem.W.Frag) (mg : Str → Option Value) (x : Str) (st : Stmt) (ps : List Str) (f : Addr) (fd : FuncData) : Prop where
  fn : Fun K x x st f fd
  at_ : mg x = some (.ref f)
  bd : Binds K fd ps []
section
variable {P : Program} {w : World} {K : PySem.W.Frag} {mg : Str → Option Value} {base : Heap}
/-! ### is_car of a tuple that is a car -/
structure Car where
  name : Str
  start : Int
  pace : Int
def Car.vs (c : Car) : List V := [.str c.name, .int c.start, .int c.pace]
structure Car.Ok (c : Car) : Prop where
  nm : NameOk c.name
  s0 : 0 ≤ c.start
  s1 : c.start ≤ 1000000
  p0 : 1 ≤ c.pace
  p1 : c.pace ≤ 60
def spIsCar : Sp := fun vs H Q _ => ∃ (t : Addr) (c : Car), vs = [.ref t] ∧ H t = some (.tup c.vs) ∧ c.Ok ∧ ∀ H', Same H H' → Q (.bl true) H'
theorem scIsCar : FnScope ["value", "name", "start", "pace"] ["value"] (defScope sIsCar) := ⟨rfl, rfl, rfl, by decide +kernel, rfl, by decide +kernel, by decide +kernel⟩
theorem ok_isCar {f fN fB : Addr} {fd dN dB : FuncData} (F : Fb K mg "is_car" sIsCar ["value"] f fd) (M : Mg mg) (BN : Fb K mg "is_name" sIsName ["value"] fN dN) (BB : Fb K mg "is_number" sIsNumber ["value", "least", "most"] fB dB)
    (GN : FnOk P w K mg base CX0 1 fN dN ["value"] spIsName) (GB : FnOk P w K mg base CX0 1 fB dB ["value", "least", "most"] spIsNumber) : FnOk P w K mg base CX0 2 f fd ["value"] spIsCar := by
  obtain ⟨t1, M1⟩ := M.latestStart
  obtain ⟨t2, M2⟩ := M.slowestPace
  refine F.fn.ok scIsCar (fun vs H Q E h => ?_) (fun cdv A outer s H vs Q E hr h => ?_)
  · obtain ⟨t, c, rfl, _⟩ := h
    rfl
  · obtain ⟨t, c, rfl, ht, C, k⟩ := h
    have nd := scIsCar.nd
    refine ⟨_, pss_cons (ps_if (PW.pt (pw_or (pt_not (pt_val (pe_callB call_isi (by rfl) M.isinstance boot_isinstance (pa_cons (pv 0) (pa_cons (pe_bltn (v := .ty "tuple") (by rfl) M.tuple boot_tTuple rfl) pa_nil)))))
        (pw_or1 (pt_cmpR op_ne (pe_callB call_len_seq (by rfl) M.len boot_len (pa_cons (pv 0) pa_nil)) pe_int (nomark _))))) (pss_one (ps_ret pe_bl)) pss_nil)
      (pss_cons (ps_asg (pv 0) (pg_tup (by rfl) (pgs_cons (pg_name (i := 1) nd rfl (.inl rfl)) (pgs_cons (pg_name (i := 2) nd rfl (.inl rfl)) (pgs_cons (pg_name (i := 3) nd rfl (.inl rfl)) pgs_nil)))))
      (pss_one (ps_ret (pe_and (pe_call GN hr (by rfl) BN.at_ BN.fn.kp BN.bd .nil pass0 (pa_cons (pv 1) pa_nil))
        (pe_and (pe_call GB hr (by rfl) BB.at_ BB.fn.kp BB.bd .nil pass0 (pa_cons (pv 2) (pa_cons pe_int (pa_cons (pe_glob (v := .int 1000000) (by rfl) M1 ⟨_, rfl⟩) pa_nil))))
          (pe_one (pe_call GB hr (by rfl) BB.at_ BB.fn.kp BB.bd .nil pass0 (pa_cons (pv 3) (pa_cons pe_int (pa_cons (pe_glob (v := .int 60) (by rfl) M2 ⟨_, rfl⟩) pa_nil)))))))))), ?_⟩
    refine ⟨_, rfl, _, _, _, _, true, rfl, .ty _, .base (.tup ht), kit_ty (by decide +kernel), true, rfl, iteF ?_⟩
    refine ⟨_, rfl, t, _, rfl, .inr (SqT.of ht), rfl, false, rfl, iteF ?_⟩
    refine ⟨_, rfl, t, c.vs, rfl, SqT.of ht, rfl, _, _, rfl, _, _, rfl, _, _, rfl, rfl, ?_⟩
    refine ⟨_, rfl, c.name, rfl, C.nm, fun H1 s1 => ⟨true, rfl, iteT ?_⟩⟩
    refine ⟨_, rfl, c.start, 0, 1000000, rfl, true, ?_, iteT ?_⟩
    · rw [decide_eq_true C.s0, decide_eq_true C.s1]
      rfl
    refine ⟨_, rfl, c.pace, 1, 60, rfl, ?_⟩
    rw [decide_eq_true C.p0, decide_eq_true C.p1]
    exact k H1 s1
/-! ### check_cars of a tuple of cars -/
def CarsAt (H : Hp) (a : Addr) (cars : List Car) : Prop := ∃ ts : List Addr, H a = some (.tup (ts.map V.ref)) ∧ ts.length = cars.length ∧ ∀ (i : Nat) (t : Addr) (c : Car), ts[i]? = some t → cars[i]? = some c → H t = some (.tup c.vs)
structure CarsOk (cars : List Car) : Prop where
  all : ∀ c ∈ cars, c.Ok
  nd : (cars.map (·.name)).Nodup
  few : cars.length ≤ 10
theorem CarsAt.same {H H' : Hp} {a : Addr} {cars : List Car} (h : CarsAt H a cars) (e : Same H H') : CarsAt H' a cars := by
  obtain ⟨ts, h1, h2, h3⟩ := h
  exact ⟨ts, e _ _ h1, h2, fun i t c e1 e2 => e _ _ (h3 i t c e1 e2)⟩
end
end Sl

set_option Elab.async false
set_option linter.all false
set_option maxRecDepth 100000
set_option maxHeartbeats 2000000
namespace OwnR
open PySem PySem.Spec PyProof.Rows L2
/-! ### enumerate(t), t a tuple -/
abbrev enumObj (n : Nat) : Obj := { cls := .type "enumerate", data := .fields #[.none, .bool false, .ref n, rawInt 0, .none, .none] }
theorem enum_make {v : Value} {o : Obj} {G : Heap → Prop} (B : Begins v o G) : Meets (Builtin.«enumerate.__new__» ⟨[.type "enumerate", v], []⟩) (fun _ R s => G s.heap ∧ R (.ok (.ret (.ref (s.heap.push o).objs.size))) { s with heap := (s.heap.push o).push (enumObj s.heap.objs.size) }) := by
  refine .of_wp fun prog w A R s hs => ?_
  obtain ⟨hp, g, d, tk, os⟩ := s
  obtain ⟨hG, hR⟩ := hs
  have isE := sub_enumerate
  have it1 : ∀ {A' : Around} {E' Q' : Value → Shared → Prop}, Q' (.ref hp.objs.size) ⟨hp.push o, g, d, tk, os⟩ → wpAny (model prog w) A' (pyIter v) (fun a b => Q' a b) (fun a b => E' a b) ⟨hp, g, d, tk, os⟩ := fun q => B.iter prog w _ _ ⟨hp, g, d, tk, os⟩ _ hG q
  wp_walk using it1
  refine wpAny_stack_any fun st => wpAny_pure ?_
  split
  · rename_i c _ _ _ _ _
    cases (c == Value.type "enumerate") <;> (wp_walk using it1; exact ⟨_, rfl, hR⟩)
  · wp_walk using it1
    exact ⟨_, rfl, hR⟩
section
variable {prog : Program} {w : World} {A : Around} {E : Value → Shared → Prop} {s : Shared}
theorem enum_tuple {t : Addr} {items : Array Value} {Q : Value → Shared → Prop} (ht : s.heap.IsTuple t items)
    (h : ∀ h', IsEnum h' (s.heap.objs.size + 1) s.heap.objs.size 0 .none → h'.IsTupleIter s.heap.objs.size t 0 → (∀ b o, s.heap.get? b = some o → h'.get? b = some o) → Q (.ref (s.heap.objs.size + 1)) { s with heap := h' }) :
    wpAny (model prog w) A (call (.type "enumerate") [.ref t]) Q E s := by
  have sz : ∀ o : Obj, (s.heap.push o).objs.size = s.heap.objs.size + 1 := fun o => Heap.size_push ..
  refine callType_new F.called_enumerate (by decide) (F.typeCall_enumerate_1 _) (F.newCall_enumerate_1 _) (fun _ => F.args_object_init_2 _ _) F.entry_enumerate_new (enum_make (begins_tuple t items)) ⟨ht, ?_⟩
  have he : ((s.heap.push { cls := .type "tuple_iterator", data := .fields #[.ref t, .int 0 0] }).push (enumObj s.heap.objs.size)).get? (s.heap.objs.size + 1) = some (enumObj s.heap.objs.size) := by
    have q := Heap.get?_push_size (s.heap.push { cls := .type "tuple_iterator", data := .fields #[.ref t, .int 0 0] }) (o := enumObj s.heap.objs.size) rfl
    rw [sz] at q
    exact q
  show _ ∧ _
  rw [sz]
  exact ⟨⟨_, he, rfl⟩, h _ he ⟨_, Heap.get?_push_of_some _ (Heap.get?_push_size _ rfl), rfl, rfl⟩ fun b o x => Heap.get?_push_of_some _ (Heap.get?_push_of_some _ x)⟩
end
/-- the tuple at a as it stands at each turn, each item in a new pair -/
def IteT (K : PySem.W.Frag) (a : Addr) (N : Nat) : It :=
  ⟨fun i H => ∃ (xs : List V) (x : V), SqT K H a xs ∧ xs[i]? = some x ∧ xs.length = N,
   fun i H v H' => ∃ T x, v = .ref T ∧ H T = none ∧ H' = upd H T (.tup [.int (i : Nat), x]) ∧ ∀ xs, SqT K H a xs → xs[i]? = some x,
   fun i H => ∃ xs : List V, SqT K H a xs ∧ xs.length ≤ i ∧ xs.length = N⟩
theorem tup_ne {h : Heap} {a it : Addr} {items : Array Value} {i : Nat} (p : h.IsTuple a items) (q : h.IsTupleIter it a i) : a ≠ it := by
  intro e
  obtain ⟨o, ho, hc, _⟩ := p
  obtain ⟨o', ho', hc', _⟩ := q
  rw [e, ho'] at ho
  cases ho
  rw [hc'] at hc
  injection hc with z
  exact absurd z (by decide)
theorem turn_enumT {P : Program} {w : World} {K : PySem.W.Frag} {elts : List Expr} {kk : Nat} {tpos : Pos} (a e it : Addr) (N : Nat) (nea : e ≠ a) :
    Turn P w K (.Tuple elts kk tpos) (IteT K a N) [e, it] e (fun i h => (∃ old, IsEnum h e it ((i : Nat) : Int) old) ∧ h.IsTupleIter it a i ∧ e ≠ it ∧ i ≤ N) where
  mem := List.mem_cons_self
  obj := fun i h st b hb => by
    obtain ⟨⟨old, he⟩, ⟨o, ho, hc, hd⟩, _⟩ := st
    rcases List.mem_cons.mp hb with z | z
    · exact ⟨_, by rw [z]; exact he, fun v q => by cases q⟩
    · exact ⟨o, by rw [List.mem_singleton.mp z]; exact ho, fun v q => by rw [hd] at q; cases q⟩
  keep := fun i h h' st k => by
    obtain ⟨⟨old, he⟩, ⟨o, ho, r⟩, hne, le⟩ := st
    exact ⟨⟨old, k e (by simp) _ he⟩, ⟨o, k it (by simp) o ho, r⟩, hne, le⟩
  item := by
    intro X hP hw hK hc i pins s σ H E I hf st hg
    subst hP hw hK
    obtain ⟨⟨old, he⟩, hit, hne, le⟩ := st
    obtain ⟨xs, x, hq, hx, eN⟩ := hg
    obtain ⟨its, rv, p, hz⟩ := I.tuple hq
    obtain ⟨u, hu, ru⟩ := rv.get hx
    have lo : i < its.toArray.size := by
      rw [List.size_toArray]
      exact (List.getElem?_eq_some_iff.mp hu).1
    have hel : e < s.heap.objs.size := Heap.lt_size he
    have hil : it < s.heap.objs.size := by
      obtain ⟨_, q, _⟩ := hit
      exact Heap.lt_size q
    have hd : X.A.in1.handled = none := I.ok.hd hc
    have D := Draws.tuple (prog := X.prog) (w := X.w) hd it a (tup_ne p hit) its.toArray
    refine wpAny_pyNext_enum_itemC D he ⟨hit, p⟩ lo hne (by simp [hne, nea]) fun y h' tk hy ho st2 hT hsz hk => ⟨_, rfl, wpAny_letOwnedTupleGo_enum (s := { s with heap := h', toks := tk + 1 }) ho fun h2 he2 sb => ?_⟩
    have ey : y = u := by
      have hy : its.toArray[i]? = some y := hy
      have : its[i]? = some y := by simpa using hy
      rw [hu] at this
      exact (Option.some.inj this).symm
    subst ey
    have hT2 : h2.get? s.heap.objs.size = some { cls := .type "tuple", data := .seq #[.int i tk, y] } := (sb.2 _ (Nat.ne_of_gt hel)).trans hT
    have new : ObjOk X.prog X.w (upd H s.heap.objs.size (.tup [.int (i : Nat), x])) h2 s.heap.objs.size (.tup [.int (i : Nat), x]) :=
      ⟨by show 2 ≤ sizeLine; decide, [.int i tk, y], .cons ⟨_, rfl⟩ (.cons ru .nil), ⟨_, hT2, rfl, _, rfl⟩⟩
    have J : Inv X pins σ (upd H s.heap.objs.size (.tup [.int (i : Nat), x])) { s with heap := h2, toks := tk + 1 } :=
      I.turnedNew (ch := [e, it]) (fun b ob hb q => (sb.2 b (fun z => hb (by simp [z]))).trans (hk b ob (fun z => hb (by simp [z])) (fun z => hb (by simp [z])) q)) hf (Nat.le_refl _) new
    have hi2 : h2.IsTupleIter it a (i + 1) := by
      obtain ⟨⟨o, h1, h3⟩, _⟩ := st2
      exact ⟨o, (sb.2 it (Ne.symm hne)).trans h1, h3⟩
    refine ⟨.ref s.heap.objs.size, _, J, rfl, ⟨_, x, rfl, I.hok.fresh (Nat.le_refl _), rfl, fun ys hy => by rw [I.tuple_inj hy hq]; exact hx⟩, ⟨⟨y, ?_⟩, hi2, hne, by have := (List.getElem?_eq_some_iff.mp hx).1; omega⟩, fun b hb => ?_⟩
    · rw [show ((i + 1 : Nat) : Int) = (i : Int) + 1 by omega]
      exact he2
    · have hb' : b < s.heap.objs.size := by
        rcases List.mem_cons.mp hb with z | z
        · rw [z]; exact hel
        · rw [List.mem_singleton.mp z]; exact hil
      rw [upd_ne (Nat.ne_of_lt hb')]
      exact (hf b hb).1
  done := by
    intro X hP hw hK hc i pins s σ H E I hf st hg
    subst hP hw hK
    obtain ⟨⟨old, he⟩, hit, hne, le⟩ := st
    obtain ⟨xs, hq, hx, eN⟩ := hg
    obtain ⟨its, rv, p, hz⟩ := I.tuple hq
    obtain ⟨f0, f1, f2, f3, f4, f5⟩ := hf it (by simp)
    have hl := rv.length
    have hd : X.A.in1.handled = none := I.ok.hd hc
    have D := Draws.tuple (prog := X.prog) (w := X.w) hd it a (tup_ne p hit) its.toArray
    have ei : i = its.toArray.size := by
      rw [List.size_toArray]
      omega
    rw [ei] at hit he
    exact wpAny_pyNext_enum_endD D he ⟨hit, p⟩ fun h' eb => ⟨rfl, I.turned (t' := s.toks) (fun b o hb q => eb b o hb q) f0 f1 f3 f4 f5⟩
  self := fun A i s Q E st h => let ⟨⟨_, he⟩, _⟩ := st; wpAny_pyIter_enum he h
def iEnumT (K : PySem.W.Frag) (ta : TA) : TI := fun σ H R => ta σ H fun vs H1 => ∃ a xs, vs = [.ref a] ∧ SqT K H1 a xs ∧ R (IteT K a xs.length) H1
theorem pi_enumT {X : Cx} {e : Expr} {ta : TA} {p pos tpos : Pos} {elts : List Expr} {kk : Nat} (hg : Gl X "enumerate") (hm : X.mg "enumerate" = none) (ha : PA X [e] ta) (hs : starEach [e] X.env = [(false, eval e X.env)] := by rfl) :
    PI X (.Tuple elts kk tpos) (.Call (.Name "enumerate" p) [e] [] pos) (iEnumT X.K ta) := by
  refine ⟨fun pins s σ H R I h => ?_⟩
  refine Call_ (ld_blt I hg hm boot_enumerate (PyProof.Rows.callWith_type1 (thn (ha.run pos pins s σ H _ I h) fun us s1 ⟨vs, H1, I1, r1, a, xs, ex, hq, q⟩ => ?_) hs rfl))
  subst ex
  obtain ⟨u, rfl, ru⟩ := r1.one
  cases (show u = Value.ref a from ru)
  obtain ⟨its, rv, p', hz⟩ := I1.tuple hq
  refine enum_tuple (items := its.toArray) p' fun h' he hit hk => wpAny_pyIter_enum he ?_
  have I2 : Inv X pins σ H1 { s1 with heap := h' } := I1.kept (t' := s1.toks) hk
  have la : a < s1.heap.objs.size := by
    obtain ⟨o, ho, _⟩ := p'
    exact Heap.lt_size ho
  refine ⟨s1.heap.objs.size + 1, [s1.heap.objs.size + 1, s1.heap.objs.size], _, _, H1, rfl, I2, turn_enumT a (s1.heap.objs.size + 1) s1.heap.objs.size xs.length (Nat.ne_of_gt (Nat.lt_succ_of_lt la)), ⟨⟨.none, he⟩, hit, Nat.succ_ne_self _, Nat.zero_le _⟩, fun b hb => ?_, q⟩
  have hle : s1.heap.objs.size ≤ b := by
    rcases List.mem_cons.mp hb with z | z
    · rw [z]
      exact Nat.le_succ _
    · rw [List.mem_singleton.mp z]
      exact Nat.le_refl _
  exact I1.fpOk hle (I1.hok.fresh hle)
theorem walk_enumT {K : PySem.W.Frag} {a : Addr} {xs : List V} : Walk (IteT K a xs.length) xs.length (fun H => SqT K H a xs) (YPair (fun i => some (.int (i : Nat))) fun i => xs[i]?) :=
  ⟨fun i _ hi q => ⟨xs, xs[i], q, by simp [hi], rfl⟩, fun _ q => ⟨xs, q, Nat.le_refl _, rfl⟩, fun i H x H' hi q y => by
    obtain ⟨T, z, e1, e2, e3, e4⟩ := y
    exact ⟨T, .int (i : Nat), z, e1, e2, e3, rfl, e4 xs q⟩⟩
end OwnR

set_option Elab.async false
set_option linter.all false
set_option maxRecDepth 100000
set_option maxHeartbeats 1000000
namespace Sl
open PySem PySem.Spec L2 OwnR
theorem eqV_str (a b : Str) : eqV (.str a) (.str b) = decide (a = b) := by
  show (a == b) = decide (a = b)
  by_cases h : a = b
  · rw [h]; simp
  · rw [decide_eq_false h]; simpa using h
theorem inV_str (x : Str) (l : List Str) : inV (.str x) (l.map V.str) = decide (x ∈ l) := by
  unfold inV
  induction l with
  | nil => simp
  | cons y r ih =>
    rw [List.map_cons, List.any_cons, ih, eqV_str]
    by_cases h : y = x
    · subst h; simp
    · have h2 : ¬ x = y := fun z => h z.symm
      simp [h, h2]
theorem tk1 {α : Type} {l : List α} {i : Nat} {x : α} (h : l[i]? = some x) : l.take (i + 1) = l.take i ++ [x] := by
  rw [List.take_add_one, h]
  rfl
theorem flat_strs (l : List Str) : (l.map V.str).all flatV = true := by
  induction l with
  | nil => rfl
  | cons y r ih => rw [List.map_cons, List.all_cons, ih]; rfl
section
variable {P : Program} {w : World} {K : PySem.W.Frag} {mg : Str → Option Value} {base : Heap}
def spCheckCars : Sp := fun vs H Q _ => ∃ (a : Addr) (cars : List Car), vs = [.ref a] ∧ CarsAt H a cars ∧ CarsOk cars ∧ ∀ H', Same H H' → Q .non H'
theorem scCheckCars : FnScope ["cars", "names", "index", "car"] ["cars"] (defScope sCheckCars) := ⟨rfl, rfl, rfl, by decide +kernel, rfl, by decide +kernel, by decide +kernel⟩
theorem ok_checkCars {f fC : Addr} {fd dC : FuncData} (F : Fb K mg "check_cars" sCheckCars ["cars"] f fd) (M : Mg mg) (BC : Fb K mg "is_car" sIsCar ["value"] fC dC)
    (GC : FnOk P w K mg base CX0 2 fC dC ["value"] spIsCar) : FnOk P w K mg base CX0 3 f fd ["cars"] spCheckCars := by
  obtain ⟨t1, M1⟩ := M.mostCars
  refine F.fn.ok scCheckCars (fun vs H Q E h => ?_) (fun cdv A outer s H vs Q E hr h => ?_)
  · obtain ⟨t, c, rfl, _⟩ := h
    rfl
  · obtain ⟨a, cars, rfl, ⟨ts, ha, hlen, hcar⟩, C, k⟩ := h
    have nd := scCheckCars.nd
    refine ⟨_, pss_cons (ps_if (pt_not (pt_val (pe_callB call_isi (by rfl) M.isinstance boot_isinstance (pa_cons (pv 0) (pa_cons (pe_bltn (v := .ty "tuple") (by rfl) M.tuple boot_tTuple rfl) pa_nil))))) (pss_one ps_never) pss_nil)
      (pss_cons (ps_set (i := 1) nd rfl (.inl rfl) (pe_lst pa_nil))
      (pss_one (ps_for PassesOwn.never rfl (pi_enumT (by rfl) M.enumerate (pa_cons (pv 0) pa_nil)) (pg_tup rfl (pgs_cons (pg_name (i := 2) nd rfl (.inl rfl)) (pgs_cons (pg_name (i := 3) nd rfl (.inl rfl)) pgs_nil)))
        (pss_cons (ps_if (PW.pt (pw_or (pt_cmpR op_eq (pv 2) (pe_glob (v := .int 10) (by rfl) M1 ⟨_, rfl⟩) (nomark _)) (pw_or (pt_not (pt_val (pe_call GC hr (by rfl) BC.at_ BC.fn.kp BC.bd .nil pass0 (pa_cons (pv 3) pa_nil))))
            (pw_or1 (pt_cmpR op_in_seq (pe_ix ix_tup (pv 3) pe_int (fun _ _ => rfl)) (pv 1) (by rfl)))))) (pss_one ps_never) pss_nil)
          (pss_one (ps_expr (pe_bm PySem.F.plainAttrs_list PySem.F.slot_list_append PySem.F.type_list_append mt_append (pv 1) (pa_cons (pe_ix ix_tup (pv 3) pe_int (fun _ _ => rfl)) pa_nil)))))))), ?_⟩
    refine ⟨_, rfl, _, _, _, _, true, rfl, .ty _, .base (.tup ha), kit_ty (by decide +kernel), true, rfl, iteF ?_⟩
    refine ⟨Nat.zero_le _, fun l hl => ?_⟩
    have hts : (ts.map V.ref).length = cars.length := by rw [List.length_map, hlen]
    refine ⟨_, rfl, a, ts.map V.ref, rfl, SqT.of (by rw [upd_ne (ne_of_none ha hl)]; exact ha), for_it walk_enumT
      (fun i σ H1 => ∃ v2 v3, σ = [some (.ref a), some (.ref l), v2, v3] ∧ Same H H1 ∧ H1 l = some (.lst (((cars.take i).map (·.name)).map V.str)))
      ⟨none, none, rfl, fun b o e => by rw [upd_ne (ne_of_none e hl)]; exact e, upd_same⟩ (fun i σ H1 _ ⟨_, _, _, s1, _⟩ => SqT.of (s1 _ _ ha)) ?_ ?_⟩
    · rintro i x σ H1 H2 hi ⟨v2, v3, rfl, s1, hL⟩ ⟨T, x1, x2, rfl, hT, rfl, e1, e2⟩
      cases e1
      have hic : i < cars.length := by rw [hts] at hi; exact hi
      obtain ⟨t, ht, rfl⟩ : ∃ t, ts[i]? = some t ∧ x2 = V.ref t := by
        have e2 : (ts.map V.ref)[i]? = some x2 := e2
        rw [List.getElem?_map] at e2
        obtain ⟨t, z1, z2⟩ := Option.map_eq_some_iff.mp e2
        exact ⟨t, z1, z2.symm⟩
      have hc : cars[i]? = some cars[i] := List.getElem?_eq_getElem hic
      have hct := hcar i t _ ht hc
      have sT : Same H1 (upd H1 T (.tup [.int (i : Nat), .ref t])) := fun b o e => by rw [upd_ne (ne_of_none e hT)]; exact e
      have h2 := sT _ _ (s1 _ _ hct)
      have C0 := C.all _ (List.getElem_mem hic)
      refine ⟨T, _, rfl, SqT.of upd_same, rfl, _, _, rfl, _, _, rfl, rfl, ?_⟩
      refine ⟨_, rfl, rfl, _, rfl, ?_⟩
      have ne10 : ¬ (V.int (i : Nat) = V.int 10) := fun z => by
        injection z with z
        have := C.few
        omega
      rw [decide_eq_false ne10]
      refine iteF ?_
      refine ⟨_, rfl, t, cars[i], rfl, h2, C0, fun H3 s3 => ⟨true, rfl, iteF ?_⟩⟩
      refine ⟨_, rfl, t, _, 0, .str cars[i].name, rfl, rfl, SqT.of (s3 _ _ h2), rfl, _, rfl, l, _, rfl, .inl (SqL.of (s3 _ _ (sT _ _ hL))), rfl, flat_strs _, false, ?_, iteF ?_⟩
      · rw [inV_str]
        have : ¬ cars[i].name ∈ (cars.take i).map (·.name) := fun hm => by
          obtain ⟨j, hj⟩ := List.mem_iff_getElem?.mp hm
          rw [List.getElem?_map] at hj
          obtain ⟨c', hc', en⟩ := Option.map_eq_some_iff.mp hj
          have hj2 : j < i := by
            have := (List.getElem?_eq_some_iff.mp hc').1
            rw [List.length_take] at this
            omega
          rw [List.getElem?_take_of_lt hj2] at hc'
          have a1 : (cars.map (·.name))[j]? = some cars[i].name := by rw [List.getElem?_map, hc']; exact congrArg some en
          have a2 : (cars.map (·.name))[i]? = some cars[i].name := by rw [List.getElem?_map, hc]; rfl
          have := nd_ix C.nd a1 a2
          omega
        rw [decide_eq_false this]
        rfl
      · have hl3 := s3 _ _ (sT _ _ hL)
        refine ⟨_, rfl, .inl ⟨rfl, _, SqL.of hl3⟩, _, rfl, t, _, 0, .str cars[i].name, rfl, rfl, SqT.of (s3 _ _ h2), rfl, l, _, _, rfl, rfl, hl3, ?_, ?_⟩
        · rw [List.length_map, List.length_map, List.length_take]
          have := C.few
          exact small1000 (by omega)
        · refine ⟨_, _, rfl, fun b o e => ?_, ?_⟩
          · rw [upd_ne (ne_of_none e hl)]
            exact s3 _ _ (sT _ _ (s1 _ _ e))
          · rw [upd_same, tk1 hc, List.map_append, List.map_append]
            rfl
    · rintro σ H1 ⟨v2, v3, rfl, s1, hL⟩
      exact k H1 s1
end
end Sl

set_option Elab.async false
set_option linter.all false
set_option maxRecDepth 100000
set_option maxHeartbeats 1000000
namespace Sl
open PySem PySem.Spec L2 OwnR LamX
/-- a def whose code object's address is known -/
structure FunC (K : PySem.W.Frag) (x qual : Str) (st : Stmt) (f : Addr) (fd : FuncData) (c : Addr) : Prop where
  ex : ∃ (oc : Value) (od : Option Addr) (kV doc pm : Value) (an : Option Addr) (ct : Value) (osl : Array (Option Value)),
    fd = PySem.W.fnOf x qual (defArgs st) (defBody st) (defScope st) .none kV doc pm an (.ref c) ct ∧ K.lookup f = some ⟨oc, od, .func fd, osl⟩ ∧ PySem.W.codeIn K (.ref c) qual = true
  kp : PySem.W.keepIn K (.ref f) = true
section
variable {P : Program} {w : World} {K : PySem.W.Frag} {mg : Str → Option Value} {base : Heap}
theorem FunC.ok {x qual : Str} {st : Stmt} {f c : Addr} {fd : FuncData} {N ps : List Str} {k : Nat} {sp : Sp} (F : FunC K x qual st f fd c) (S : FnScope N ps (defScope st)) (len : ∀ vs H Q E, sp vs H Q E → vs.length = ps.length)
    (hbody : ∀ (A : Around) (outer : List Env) (s : Shared) (H : Hp) (vs : List V) (Q : VK) (E : XK), Room k (A.deeper (PyProof.Rows.envOfC qual (defScope st) s.heap.objs.size f (.ref c))) → sp vs H Q E →
      ∃ t, PSs (cxOf CX0 P w K mg base N qual (defScope st) f (.ref c) A outer s H E).nox (defBody st) t ∧ t { nx := fun _ H' => Q .non H', rt := Q } (start N vs) H) : FnOk P w K mg base CX0 (k + 1) f fd ps sp := by
  obtain ⟨oc, od, kV, doc, pm, an, ct, osl, rfl, lk, hcd⟩ := F.ex
  refine fn_of lk hcd S len fun A outer s H vs Q E hr hsp => ?_
  obtain ⟨t, h, q⟩ := hbody A outer s H vs Q E hr hsp
  exact ⟨t, h.nox, q⟩
structure FbC (K : PySem.W.Frag) (mg : Str → Option Value) (x : Str) (st : Stmt) (ps : List Str) (f : Addr) (fd : FuncData) (c : Addr) : Prop where
  fn : FunC K x x st f fd c
  at_ : mg x = some (.ref f)
  bd : Binds K fd ps []
/-- what stands behind a step that may have made code objects -/
theorem ExtN.same {H H' : Hp} (e : Same H H') : ExtN H H' := fun b o h _ => e b o h
theorem ExtN.lst {H H' : Hp} (e : ExtN H H') {a : Addr} {xs : List V} (h : H a = some (.lst xs)) : H' a = some (.lst xs) := e _ _ h (fun _ z => nomatch z)
theorem ExtN.tup {H H' : Hp} (e : ExtN H H') {a : Addr} {xs : List V} (h : H a = some (.tup xs)) : H' a = some (.tup xs) := e _ _ h (fun _ z => nomatch z)
theorem ExtN.dK {H H' : Hp} (e : ExtN H H') {a : Addr} {xs : List (Key × V)} (h : H a = some (.dK xs)) : H' a = some (.dK xs) := e _ _ h (fun _ z => nomatch z)
theorem ExtN.ins {H H' : Hp} (e : ExtN H H') {a C d : Addr} {xs : List (Str × V)} (h : H a = some (.ins C d xs)) : H' a = some (.ins C d xs) := e _ _ h (fun _ z => nomatch z)
theorem ExtN.sqT {H H' : Hp} (e : ExtN H H') {a : Addr} {xs : List V} (h : SqT K H a xs) : SqT K H' a xs := by
  rcases h with (h | ⟨o, h⟩) | h
  · exact .inl (.inl (e _ _ h fun _ z => nomatch z))
  · exact .inl (.inr ⟨o, e _ _ h fun _ z => nomatch z⟩)
  · exact .inr h
theorem ExtN.sqL {H H' : Hp} (e : ExtN H H') {a : Addr} {xs : List V} (h : SqL K H a xs) : SqL K H' a xs := by
  rcases h with (h | ⟨o, h⟩) | h
  · exact .inl (.inl (e _ _ h fun _ z => nomatch z))
  · exact .inl (.inr ⟨o, e _ _ h fun _ z => nomatch z⟩)
  · exact .inr h
theorem CarsAt.ext {H H' : Hp} {a : Addr} {cars : List Car} (h : CarsAt H a cars) (e : ExtN H H') : CarsAt H' a cars := by
  obtain ⟨ts, h1, h2, h3⟩ := h
  exact ⟨ts, ExtN.tup e h1, h2, fun i t c e1 e2 => ExtN.tup e (h3 i t c e1 e2)⟩
/-! ### _in_order -/
/-- nothing that was tracked, but tables, stands at D -/
def New (H : Hp) (D : Addr) : Prop := ∀ b o, H b = some o → (∀ ps, o ≠ .tbl ps) → b ≠ D
theorem New.of {H : Hp} {D : Addr} (h : H D = none) : New H D := fun b o e _ => ne_of_none e h
theorem New.ext {H H' : Hp} {D : Addr} (e : ExtN H H') (h : New H' D) : New H D := fun b o x n => h b o (e b o x n) n
theorem zip_self (tk : Str → Int) : ∀ names : List Str, (names.map tk).zip (names.map V.str) = (names.map fun n => (tk n, n)).map fun q => (q.1, V.str q.2)
  | [] => rfl
  | n :: r => by
    simp only [List.map_cons, List.zip_cons_cons]
    rw [zip_self tk r]
def qInOrder : Str := ("_in_order" : Str) ++ (".<locals>." : Str) ++ ("<lambda>" : Str)
def spInOrder (K : PySem.W.Frag) (T : List (Addr × Str)) : Sp := fun vs H Q _ => ∃ (p d : Addr) (names : List Str) (kvs : List (Key × V)) (tk : Str → Int), vs = [.ref p, .ref d] ∧ SqL K H p (names.map V.str) ∧ H d = some (.dK kvs) ∧
  (∀ n ∈ names, valV kvs (.inr n) = some (.int (tk n))) ∧ Tabs T H ∧ ∀ H' D, ExtN H H' → Tabs T H' → New H D → H' D = some (.lst ((sortBy tk names).map V.str)) → Q (.ref D) H'
theorem scInOrder : FnScope ["names", "ticks"] ["names", "ticks"] (defScope sInOrder) := ⟨rfl, rfl, rfl, by decide +kernel, rfl, by decide +kernel, by decide +kernel⟩
theorem ok_inOrder {f c Pt : Addr} {fd : FuncData} {T : List (Addr × Str)} (F : FbC K mg "_in_order" sInOrder ["names", "ticks"] f fd c) (M : Mg mg) (TB : TabB base mg c Pt) (hm : (Pt, qInOrder) ∈ T) (hu : ∀ p ∈ T, p.1 = Pt → p.2 = qInOrder) :
    FnOk P w K mg base CX0 3 f fd ["names", "ticks"] (spInOrder K T) := by
  refine F.fn.ok scInOrder (fun vs H Q E h => ?_) (fun A outer s H vs Q E hr h => ?_)
  · obtain ⟨p, d, names, kvs, tk, rfl, _⟩ := h
    rfl
  · obtain ⟨p, d, names, kvs, tk, rfl, hp, hd, hk, hT, k⟩ := h
    refine ⟨_, pss_one (ps_ret (pe_sortLam (par := "name") hr TB rfl hm hu (by rfl) M.sorted (lamP_by (sc := defScope sInOrder) (by decide +kernel)) (pv 0) (pk_dict (j := 1) rfl (by decide +kernel) (by decide +kernel) (lamP_by (sc := defScope sInOrder) (by decide +kernel)) (Or.inr (Or.inl rfl))))), ?_⟩
    refine ⟨_, rfl, p, names.map V.str, names.map tk, rfl, .inl hp, by simp, hT, fun H2 e i x kk hx hkk => ?_, fun H2 D e T2 fD => ?_⟩
    · rw [List.getElem?_map] at hx hkk
      obtain ⟨n, hn, rfl⟩ := Option.map_eq_some_iff.mp hx
      rw [hn] at hkk
      cases hkk
      exact ⟨d, kvs, .inr n, rfl, .inl (ExtN.dK e hd), rfl, hk n (List.mem_of_getElem? hn)⟩
    · have e1 : (isort ((names.map tk).zip (names.map V.str))).map (·.2) = (sortBy tk names).map V.str := by
        rw [zip_self, isort_map, List.map_map]
        unfold sortBy
        rw [List.map_map]
        rfl
      rw [e1]
      exact k _ D (fun b o h n => by rw [upd_ne (ne_of_none (e b o h n) fD)]; exact e b o h n) (T2.ext fun b o h => by rw [upd_ne (ne_of_none h fD)]; exact h) (New.ext e (New.of fD)) upd_same
end
end Sl

/-! The mathematics of driving: rows of (name, tick, leader) behind a section. -/
namespace Sl
open OwnR
section
variable {N : Type} [DecidableEq N]
abbrev RowT (N : Type) := N × Int × Option N
/-- one more car enters a narrow section -/
def fnext (free : N → Int) (acc : List (RowT N)) (n : N) : RowT N :=
  match acc.getLast? with
  | none => (n, free n, none)
  | some (a, t, l) => if free n < t then (n, t, some (l.getD a)) else (n, free n, none)
def foll (free : N → Int) (order : List N) : List (RowT N) := order.foldl (fun acc n => acc ++ [fnext free acc n]) []
theorem fnext_name (free : N → Int) (acc : List (RowT N)) (n : N) : (fnext free acc n).1 = n := by
  unfold fnext
  split
  · rfl
  · split <;> rfl
theorem foll_snoc (free : N → Int) (order : List N) (n : N) : foll free (order ++ [n]) = foll free order ++ [fnext free (foll free order) n] := by
  unfold foll
  rw [List.foldl_append]
  rfl
theorem foll_names (free : N → Int) (order : List N) : (foll free order).map (·.1) = order := by
  have h : ∀ (l : List N) (acc : List (RowT N)), (l.foldl (fun acc n => acc ++ [fnext free acc n]) acc).map (·.1) = acc.map (·.1) ++ l := by
    intro l
    induction l with
    | nil => intro acc; simp
    | cons n r ih =>
      intro acc
      rw [List.foldl_cons, ih, List.map_append, List.append_assoc]
      simp [fnext_name]
  have := h order []
  simpa [foll] using this
theorem foll_length (free : N → Int) (order : List N) : (foll free order).length = order.length := by
  have := congrArg List.length (foll_names free order)
  simpa using this
/-- what a row list tells of a name -/
def look (acc : List (RowT N)) (n : N) : Option (Int × Option N) := (acc.find? fun r => decide (r.1 = n)).map (·.2)
theorem look_nil (n : N) : look ([] : List (RowT N)) n = none := rfl
theorem look_none {acc : List (RowT N)} {n : N} (h : n ∉ acc.map (·.1)) : look acc n = none := by
  unfold look
  rw [List.find?_eq_none.mpr]
  · rfl
  · intro r hr
    simp only [decide_eq_true_eq]
    intro e
    exact h (List.mem_map.mpr ⟨r, hr, e⟩)
theorem look_snoc (acc : List (RowT N)) (r : RowT N) (m : N) (h : r.1 ∉ acc.map (·.1)) : look (acc ++ [r]) m = if m = r.1 then some r.2 else look acc m := by
  by_cases e : m = r.1
  · subst e
    have h1 : acc.find? (fun x => decide (x.1 = r.1)) = none := by
      rw [List.find?_eq_none]
      intro x hx
      simp only [decide_eq_true_eq]
      exact fun z => h (List.mem_map.mpr ⟨x, hx, z⟩)
    unfold look
    rw [List.find?_append, h1]
    simp
  · rw [if_neg e]
    unfold look
    rw [List.find?_append]
    have h1 : ([r] : List (RowT N)).find? (fun x => decide (x.1 = m)) = none := by
      have : ¬ r.1 = m := fun z => e z.symm
      simp [this]
    rw [h1]
    simp
theorem look_get {acc : List (RowT N)} (nd : (acc.map (·.1)).Nodup) {i : Nat} {r : RowT N} (h : acc[i]? = some r) : look acc r.1 = some r.2 := by
  induction acc generalizing i with
  | nil => simp at h
  | cons a l ih =>
    rw [List.map_cons, List.nodup_cons] at nd
    cases i with
    | zero =>
      have e : a = r := by simpa using h
      subst e
      unfold look
      simp
    | succ j =>
      have hj : l[j]? = some r := by simpa using h
      have hm : r.1 ∈ l.map (·.1) := List.mem_map.mpr ⟨r, List.mem_of_getElem? hj, rfl⟩
      have hne : ¬ a.1 = r.1 := fun z => nd.1 (z ▸ hm)
      have := ih nd.2 hj
      unfold look at this ⊢
      rw [List.find?_cons, decide_eq_false hne]
      exact this
theorem look_some {acc : List (RowT N)} {n : N} (h : n ∈ acc.map (·.1)) : ∃ x, look acc n = some x := by
  obtain ⟨r, hr, e⟩ := List.mem_map.mp h
  unfold look
  cases q : acc.find? (fun r => decide (r.1 = n)) with
  | none =>
    rw [List.find?_eq_none] at q
    have := q r hr
    simp [e] at this
  | some z => exact ⟨z.2, rfl⟩
def tickOf (acc : List (RowT N)) (n : N) : Int := ((look acc n).map (·.1)).getD 0
def leadOf (acc : List (RowT N)) (n : N) : Option N := (look acc n).bind (·.2)
end
end Sl

set_option Elab.async false
set_option linter.all false
set_option maxRecDepth 100000
set_option maxHeartbeats 1000000
namespace Sl
open PySem PySem.Spec L2 OwnR LamX
theorem key_eq (a b : Str) : ((Sum.inr a : Key) = Sum.inr b) = (a = b) := by
  refine propext ⟨fun h => Sum.inr.inj h, fun h => congrArg _ h⟩
/-- a dict of ticks, a dict of leaders, as the rows tell -/
def TkD (kvs : List (Key × V)) (acc : List (RowT Str)) : Prop := ∀ n, valV kvs (Sum.inr n : Key) = (look acc n).map fun x => V.int x.1
def LdD (kvs : List (Key × V)) (acc : List (RowT Str)) : Prop := ∀ n, valV kvs (Sum.inr n : Key) = (look acc n).bind fun x => x.2.map V.str
theorem valV_putS (kvs : List (Key × V)) (k j : Str) (y : V) : valV (putK kvs (Sum.inr k : Key) y) (Sum.inr j : Key) = if j = k then some y else valV kvs (Sum.inr j : Key) := by
  rw [valV_put]
  by_cases e : j = k
  · rw [if_pos e, if_pos (congrArg _ e)]
  · rw [if_neg e, if_neg (fun z => e (Sum.inr.inj z))]
theorem gk {H : Hp} {a : Addr} {kvs : List (Key × V)} {n : Str} {v : V} (e : H a = some (.dK kvs)) (h : valV kvs (Sum.inr n : Key) = some v) : DGet H a (.str n) (some v) := by
  have q := DGet.k (k := (Sum.inr n : Key)) e
  rw [h] at q
  exact q
theorem gk0 {H : Hp} {a : Addr} {kvs : List (Key × V)} {n : Str} {o : Option V} (e : H a = some (.dK kvs)) (h : valV kvs (Sum.inr n : Key) = o) : DGet H a (.str n) o := by
  have q := DGet.k (k := (Sum.inr n : Key)) e
  rw [h] at q
  exact q
theorem look_last {acc : List (RowT Str)} (nd : (acc.map (·.1)).Nodup) {r : RowT Str} (h : acc.getLast? = some r) : look acc r.1 = some r.2 := by
  rw [List.getLast?_eq_getElem?] at h
  exact look_get nd h
theorem TkD.put {kvs : List (Key × V)} {acc : List (RowT Str)} {r : RowT Str} (h : TkD kvs acc) (hn : r.1 ∉ acc.map (·.1)) : TkD (putK kvs (Sum.inr r.1 : Key) (.int r.2.1)) (acc ++ [r]) := by
  intro m
  rw [valV_putS, look_snoc acc r m hn]
  by_cases e : m = r.1
  · rw [if_pos e, if_pos e]; rfl
  · rw [if_neg e, if_neg e]; exact h m
theorem TkD.put2 {kvs : List (Key × V)} {acc : List (RowT Str)} {r : RowT Str} {y : V} (h : TkD kvs acc) (hn : r.1 ∉ acc.map (·.1)) : TkD (putK (putK kvs (Sum.inr r.1 : Key) y) (Sum.inr r.1 : Key) (.int r.2.1)) (acc ++ [r]) := by
  intro m
  rw [valV_putS, valV_putS, look_snoc acc r m hn]
  by_cases e : m = r.1
  · rw [if_pos e, if_pos e]; rfl
  · rw [if_neg e, if_neg e, if_neg e]; exact h m
theorem LdD.put {kvs : List (Key × V)} {acc : List (RowT Str)} {r : RowT Str} {l : Str} (h : LdD kvs acc) (hn : r.1 ∉ acc.map (·.1)) (hl : r.2.2 = some l) : LdD (putK kvs (Sum.inr r.1 : Key) (.str l)) (acc ++ [r]) := by
  intro m
  rw [valV_putS, look_snoc acc r m hn]
  by_cases e : m = r.1
  · rw [if_pos e, if_pos e]; simp [hl]
  · rw [if_neg e, if_neg e]; exact h m
theorem LdD.skip {kvs : List (Key × V)} {acc : List (RowT Str)} {r : RowT Str} (h : LdD kvs acc) (hn : r.1 ∉ acc.map (·.1)) (hl : r.2.2 = none) : LdD kvs (acc ++ [r]) := by
  intro m
  rw [look_snoc acc r m hn]
  by_cases e : m = r.1
  · rw [if_pos e, h m, e, look_none hn]; simp [hl]
  · rw [if_neg e]; exact h m
section
variable {P : Program} {w : World} {K : PySem.W.Frag} {mg : Str → Option Value} {base : Heap}
def spFollow (K : PySem.W.Frag) : Sp := fun vs H Q _ => ∃ (p d : Addr) (order : List Str) (kvs : List (Key × V)) (fr : Str → Int), vs = [.ref p, .ref d] ∧ SqL K H p (order.map V.str) ∧ H d = some (.dK kvs) ∧
  (∀ n ∈ order, valV kvs (Sum.inr n : Key) = some (.int (fr n))) ∧ order.Nodup ∧ order.length ≤ 100 ∧
  ∀ H' t L G kL kG, Same H H' → H L = none → H G = none → L ≠ G → H' t = some (.tup [.ref L, .ref G]) → H' L = some (.dK kL) → H' G = some (.dK kG) → TkD kL (foll fr order) → LdD kG (foll fr order) → Q (.ref t) H'
theorem scFollow : FnScope ["order", "free", "left", "leaders", "ahead", "name"] ["order", "free"] (defScope sFollow) := ⟨rfl, rfl, rfl, by decide +kernel, rfl, by decide +kernel, by decide +kernel⟩
def aheadV (acc : List (RowT Str)) : V := match acc.getLast? with
  | none => .non
  | some r => .str r.1
theorem ok_follow {f : Addr} {fd : FuncData} (F : Fb K mg "_follow" sFollow ["order", "free"] f fd) : FnOk P w K mg base CX0 1 f fd ["order", "free"] (spFollow K) := by
  refine F.fn.ok scFollow (fun vs H Q E h => ?_) (fun cdv A outer s H vs Q E hr h => ?_)
  · obtain ⟨p, d, o, kvs, fr, rfl, _⟩ := h
    rfl
  · obtain ⟨p, d, order, kvs, fr, rfl, hp, hd, hk, hnd, hlen, k⟩ := h
    have nd := scFollow.nd
    have hu := hu_of hr
    refine ⟨_, pss_cons (ps_set (i := 2) nd rfl (.inl rfl) pe_dnewK) (pss_cons (ps_set (i := 3) nd rfl (.inl rfl) pe_dnewK) (pss_cons (ps_set (i := 4) nd rfl (.inl rfl) pe_non)
      (pss_cons (ps_for PassesOwn.never rfl (pi_list (pv 0)) (pg_name (i := 5) nd rfl (.inl rfl))
        (pss_cons (ps_dput hu (pv 2) (pv 5) (pe_dget hu (pv 1) (pv 5) (fun _ _ => rfl)) rfl)
        (pss_cons (ps_if (PW.pt (pw_and (pt_cmp (pc_notN (pv 4))) (pw_and1 (pt_cmpR op_lt (pe_dget hu (pv 1) (pv 5) (fun _ _ => rfl)) (pe_dget hu (pv 2) (pv 4) (fun _ _ => rfl)) (nomark _)))))
            (pss_cons (ps_dput hu (pv 2) (pv 5) (pe_dget hu (pv 2) (pv 4) (fun _ _ => rfl)) rfl) (pss_one (ps_dput hu (pv 3) (pv 5) (pe_dget2 hu (pv 3) (pv 4) (pv 4) ⟨rfl, rfl, rfl, rfl⟩) rfl))) pss_nil)
          (pss_one (ps_set (i := 4) nd rfl (.inl rfl) (pv 5))))))
      (pss_one (ps_ret (pe_tup (pa_cons (pv 2) (pa_cons (pv 3) pa_nil)))))))), ?_⟩
    intro L hL G hG
    have nLG : L ≠ G := ne_of_none (H := upd H L (.dK [])) upd_same hG
    have hG0 : H G = none := by rw [upd_ne nLG.symm] at hG; exact hG
    have ndL : d ≠ L := ne_of_none hd hL
    have ndG : d ≠ G := ne_of_none hd hG0
    have s0 : Same H (upd (upd H L (.dK [])) G (.dK [])) := fun b o e => by rw [upd_ne (ne_of_none e hG0), upd_ne (ne_of_none e hL)]; exact e
    refine ⟨_, rfl, p, rfl, ⟨_, s0.seq hp⟩, for_list (K := K) (a := p) (xs := order.map V.str) (fun i σ H1 => ∃ v5 kL kG, σ = [some (.ref p), some (.ref d), some (.ref L), some (.ref G), some (aheadV (foll fr (order.take i))), v5] ∧ Same H H1 ∧
        H1 L = some (.dK kL) ∧ H1 G = some (.dK kG) ∧ TkD kL (foll fr (order.take i)) ∧ LdD kG (foll fr (order.take i)) ∧ kL.length ≤ 2 * i ∧ kG.length ≤ i)
      ⟨none, [], [], rfl, s0, by rw [upd_ne nLG, upd_same], upd_same, fun n => rfl, fun n => rfl, Nat.zero_le _, Nat.zero_le _⟩ (fun i σ H1 _ ⟨_, _, _, _, s1, _⟩ => s1.seq hp) ?_ ?_⟩
    · rintro i x σ H1 hi ⟨v5, kL, kG, rfl, s1, h1, h2, tL, tG, lL, lG⟩
      obtain ⟨n, hn, rfl⟩ : ∃ n, order[i]? = some n ∧ x = V.str n := by
        rw [List.getElem?_map] at hi
        obtain ⟨n, z1, z2⟩ := Option.map_eq_some_iff.mp hi
        exact ⟨n, z1, z2.symm⟩
      have hil : i < order.length := (List.getElem?_eq_some_iff.mp hn).1
      have hfr := hk n (List.mem_of_getElem? hn)
      have hd1 := s1 _ _ hd
      have enames := foll_names fr (order.take i)
      have hnew : n ∉ (foll fr (order.take i)).map (·.1) := by
        rw [enames]
        intro hm
        obtain ⟨j, hj⟩ := List.mem_iff_getElem?.mp hm
        have hj2 : j < i := by
          have := (List.getElem?_eq_some_iff.mp hj).1
          rw [List.length_take] at this
          omega
        rw [List.getElem?_take_of_lt hj2] at hj
        have := nd_ix hnd hj hn
        omega
      have etk : foll fr (order.take (i + 1)) = foll fr (order.take i) ++ [fnext fr (foll fr (order.take i)) n] := by rw [tk1 hn, foll_snoc]
      have lk := fun m => look_snoc (foll fr (order.take i)) (fnext fr (foll fr (order.take i)) n) m (by rw [fnext_name]; exact hnew)
      rw [fnext_name] at lk
      have hndA : ((foll fr (order.take i)).map (·.1)).Nodup := by
        rw [enames]
        exact hnd.sublist (List.take_sublist _ _)
      rw [etk]
      generalize foll fr (order.take i) = acc at *
      have hn1 : (fnext fr acc n).1 ∉ acc.map (·.1) := by rw [fnext_name]; exact hnew
      have zL : kL.length < sizeLine := small1000 (by omega)
      have zG : kG.length < sizeLine := small1000 (by omega)
      have nLG2 : L ≠ G := nLG
      refine ⟨_, rfl, _, rfl, d, _, rfl, gk hd1 hfr, _, rfl, _, rfl, L, _, rfl, DPut.k (k := (Sum.inr n : Key)) h1 zL, ?_⟩
      have l1 := length_putK kL (Sum.inr n : Key) (.int (fr n))
      have hLast : ∀ (r : RowT Str), aheadV (acc ++ [r]) = .str r.1 := fun r => by
        unfold aheadV
        rw [List.getLast?_append]
        rfl
      have sL : Same H (upd H1 L (.dK (putK kL (Sum.inr n : Key) (.int (fr n))))) := fun b o e => by rw [upd_ne (ne_of_none e hL)]; exact s1 b o e
      cases hl : acc.getLast? with
      | none =>
        have eV : aheadV acc = .non := by unfold aheadV; rw [hl]
        have ef : fnext fr acc n = (n, fr n, none) := by unfold fnext; rw [hl]
        rw [eV]
        refine ⟨_, rfl, _, rfl, ?_⟩
        rw [show (!decide (V.non = V.non)) = false by simp]
        refine iteF ?_
        refine iteF ?_
        rw [ef] at hn1 ⊢
        refine ⟨_, rfl, some (.str n), _, _, ?_, sL, upd_same, by rw [upd_ne nLG.symm]; exact h2, tL.put (r := (n, fr n, none)) hn1, tG.skip hn1 rfl, by omega, by omega⟩
        rw [hLast]
        rfl
      | some r =>
        obtain ⟨a, t, l⟩ := r
        have eV : aheadV acc = .str a := by unfold aheadV; rw [hl]
        have la := look_last hndA hl
        have nea : a ≠ n := fun z => by
          rw [z, look_none hnew] at la
          cases la
        have ga : valV (putK kL (Sum.inr n : Key) (.int (fr n))) (Sum.inr a : Key) = some (.int t) := by
          rw [valV_putS, if_neg nea, tL a, la]
          rfl
        have gL : upd H1 L (.dK (putK kL (Sum.inr n : Key) (.int (fr n)))) L = some (.dK (putK kL (Sum.inr n : Key) (.int (fr n)))) := upd_same
        rw [eV]
        refine ⟨_, rfl, _, rfl, ?_⟩
        rw [show (!decide (V.str a = V.non)) = true by simp]
        refine iteT ?_
        refine ⟨_, rfl, _, rfl, d, _, rfl, gk (by rw [upd_ne ndL]; exact hd1) hfr, _, rfl, _, rfl, L, _, rfl, gk gL ga, fr n, t, rfl, rfl, _, rfl, ?_⟩
        by_cases hc : fr n < t
        · rw [decide_eq_true hc]
          refine iteT ?_
          have ef : fnext fr acc n = (n, t, some (l.getD a)) := by
            unfold fnext
            rw [hl]
            exact if_pos hc
          have gG : valV kG (Sum.inr a : Key) = l.map V.str := by rw [tG a, la]; rfl
          have l2 := length_putK (putK kL (Sum.inr n : Key) (.int (fr n))) (Sum.inr n : Key) (.int t)
          have l3 := length_putK kG (Sum.inr n : Key) (.str (l.getD a))
          have eg : ((l.map V.str).getD (.str a)) = V.str (l.getD a) := by cases l <;> rfl
          rw [ef] at hn1 ⊢
          refine ⟨_, rfl, _, rfl, L, _, rfl, gk gL ga, _, rfl, _, rfl, L, _, rfl, DPut.k (k := (Sum.inr n : Key)) gL (small1000 (by omega)), ?_⟩
          have gG2 : (upd (upd H1 L (.dK (putK kL (Sum.inr n : Key) (.int (fr n))))) L (.dK (putK (putK kL (Sum.inr n : Key) (.int (fr n))) (Sum.inr n : Key) (.int t)))) G = some (.dK kG) := by rw [upd_ne nLG.symm, upd_ne nLG.symm]; exact h2
          refine ⟨_, rfl, G, rfl, .inl ⟨_, .inl gG2⟩, _, rfl, _, rfl, _, gk0 gG2 gG, ?_⟩
          rw [eg]
          refine ⟨_, rfl, _, rfl, G, _, rfl, DPut.k (k := (Sum.inr n : Key)) gG2 zG, ?_⟩
          refine ⟨_, rfl, some (.str n), _, _, ?_, fun b o e => ?_, by rw [upd_ne nLG, upd_same], upd_same, tL.put2 (r := (n, t, some (l.getD a))) hn1, tG.put (r := (n, t, some (l.getD a))) hn1 rfl, Nat.le_trans l2 (by omega), Nat.le_trans l3 (by omega)⟩
          · rw [hLast]
            rfl
          · rw [upd_ne (ne_of_none e hG0), upd_ne (ne_of_none e hL)]
            exact sL b o e
        · rw [decide_eq_false hc]
          refine iteF ?_
          have ef : fnext fr acc n = (n, fr n, none) := by
            unfold fnext
            rw [hl]
            exact if_neg hc
          rw [ef] at hn1 ⊢
          refine ⟨_, rfl, some (.str n), _, _, ?_, sL, upd_same, by rw [upd_ne nLG.symm]; exact h2, tL.put (r := (n, fr n, none)) hn1, tG.skip hn1 rfl, by omega, by omega⟩
          rw [hLast]
          rfl
    · rintro σ H1 ⟨v5, kL, kG, rfl, s1, h1, h2, tL, tG, lL, lG⟩
      have e3 : order.take (order.map V.str).length = order := by rw [List.length_map, List.take_length]
      rw [e3] at tL tG
      refine ⟨_, rfl, _, rfl, by show 2 ≤ sizeLine; decide, fun t ht => ?_⟩
      exact k _ t L G kL kG (fun b o e => by rw [upd_ne (ne_of_none (s1 _ _ e) ht)]; exact s1 b o e) hL hG0 nLG upd_same (by rw [upd_ne (ne_of_none h1 ht)]; exact h1) (by rw [upd_ne (ne_of_none h2 ht)]; exact h2) tL tG
end
end Sl

set_option Elab.async false
set_option linter.all false
set_option maxRecDepth 100000
set_option maxHeartbeats 1000000
namespace OwnR
open PySem PySem.Spec PyProof.Rows L2
theorem fold_flat : ∀ (l : List (Array Nat)) (acc : Array Nat), (l.foldl (· ++ ·) acc).toList = acc.toList ++ (l.map (·.toList)).flatten
  | [], acc => by simp
  | a :: r, acc => by
    rw [List.foldl_cons, fold_flat r, List.map_cons, List.flatten_cons]
    simp
/-- z * n, a text repeated, n from 1 -/
def rRepS : R2 := fun x y H Q => ∃ (z : Str) (n : Nat), x = .str z ∧ y = .int (n : Int) ∧ 1 ≤ n ∧ n ≤ 1000000 ∧ z.length * n ≤ 1000000 ∧ ∀ u : Str, u.cps.toList = (List.replicate n z.cps.toList).flatten → Q (.str u) H
theorem line_big : 1000000 ≤ sizeLine := by decide
theorem op_repS {X : Cx} : OpR X (binaryOp .Mult) rRepS := by
  intro pins s σ H x y v u Q I rx ry h
  obtain ⟨z, n, rfl, rfl, h1, hn, hz, q⟩ := h
  obtain ⟨t, rfl⟩ := (show ∃ t, v = Value.str z t from rx)
  obtain ⟨t', rfl⟩ := (show ∃ t, u = Value.int (n : Int) t from ry)
  have hn1 : ¬ (n : Int) < 1 := by omega
  have hzl : (z.length : Int) * (n : Int) ≤ 1000000 := by
    rw [← Int.natCast_mul]
    generalize z.length * n = mm at hz
    omega
  refine P.mul_str (by
      rw [decide_eq_false (by omega : ¬ (n : Int) < -(2 ^ 63)), decide_eq_false (by omega : ¬ (n : Int) ≥ 2 ^ 63)]
      rfl) (fun _ hne => ?_) (fun _ hne => ?_) ?_
  · have e1 : (z.length : Int) ≤ (2 ^ 63 - 1 : Int) / (n : Int) := by
      refine Int.le_ediv_of_mul_le (by omega) ?_
      exact Int.le_trans hzl (by decide)
    exact Int.not_lt.mpr e1
  · unfold Builtin.Str.tooLong
    have e2 : z.length * (n : Int).toNat ≤ sizeLine := by
      have : (n : Int).toNat = n := by omega
      rw [this]
      exact Nat.le_trans hz line_big
    simp only [decide_eq_false_iff_not]
    omega
  · rw [if_neg hn1]
    split
    · rename_i hb
      have hb : (n : Int) = 1 ∨ z.length = 0 := by simpa using hb
      refine ⟨.str z, H, I, ⟨t, rfl⟩, q z ?_⟩
      rcases hb with hb | hb
      · have : n = 1 := by omega
        subst this
        simp
      · have hl : z.cps.toList = [] := by
          have : z.cps.toList.length = 0 := by simpa [Str.length] using hb
          exact List.length_eq_zero_iff.mp this
        rw [hl]
        simp
    · have en : (n : Int).toNat = n := by omega
      rw [en]
      have ec : (⟨(List.replicate n z.cps).foldl (· ++ ·) #[]⟩ : Str).cps.toList = (List.replicate n z.cps.toList).flatten := by
        show ((List.replicate n z.cps).foldl (· ++ ·) #[]).toList = _
        rw [fold_flat, List.map_replicate]
        simp
      refine ⟨?_, .str _, H, I.tok _, ⟨_, rfl⟩, q _ ec⟩
      have : (⟨(List.replicate n z.cps).foldl (· ++ ·) #[]⟩ : Str).length = z.length * n := by
        show ((List.replicate n z.cps).foldl (· ++ ·) #[]).size = z.cps.size * n
        rw [← Array.length_toList, fold_flat, List.map_replicate]
        simp [Nat.mul_comm]
      rw [this]
      exact Nat.le_trans hz line_big
/-! ### d.get(k), d a written dict that has k -/
def tKGet1 (K : PySem.W.Frag) (w : World) (td ty : TE) : TE := fun σ H Q => td σ H fun x H1 => ∃ p, x = .ref p ∧ (p == sysModules) = false ∧ (∃ z0 v0, KDct K w p z0 v0) ∧ ty σ H1 fun y H2 => ∃ (z : Str) (v : V), y = .str z ∧ KDct K w p z v ∧ Q v H2
theorem pe_kget1 {X : Cx} {o e : Expr} {apos cpos : Pos} {td ty : TE} (ho : PE X o td) (he : PE X e ty) (m : M1 X o "get" apos e cpos) : PE X (.Call (.Attribute o "get" apos) [e] [] cpos) (tKGet1 X.K X.w td ty) := by
  refine ⟨fun pins s σ H Q I h => ?_⟩
  refine wpAny_Call_method m.base m.few m.line PySem.F.plainAttrs_dict PySem.F.slot_dict_get PySem.F.type_dict_get (thn (ho.run pins s σ H _ I h) fun u s1 ⟨x, H1, I1, rx, p, ex, np, ⟨z0, v0, es0, n0, u0, hl0, hk0, e0, _⟩, q1⟩ => ?_)
  subst ex
  cases (show u = Value.ref p from rx)
  have hm0 := PySem.W.mapOf_K (prog := X.prog) (w := X.w) I1.kIn hl0 hk0
  refine ⟨hm0.typeIs, fun b q => ?_, ?_⟩
  · cases q
    exact ⟨_, I1.kIn _ _ hl0, rfl⟩
  rw [m.trees]
  refine Calls.callWith_builtin rfl (Calls.evalArgs_plain (Calls.spliced_cons (thn (he.run pins s1 σ H1 _ I1 q1) fun iv s2 ⟨y, H2, I2, ry, z, v, ey, kd, q2⟩ => Calls.spliced_nil ?_)))
  subst ey
  obtain ⟨es, n, u1, hl, hk, e1, ru⟩ := kd
  obtain ⟨t, rfl⟩ := (show ∃ t, iv = Value.str z t from ry)
  have hm := PySem.W.mapOf_K (prog := X.prog) (w := X.w) I2.kIn hl hk
  have hf := PySem.W.find_K hl e1
  refine call_meetsIn PySem.F.slot_dict_get hm.typeIs PySem.F.entry_dict_get (PySem.F.args_dict_get_2 _ _) (meets_dict_get (strKind X.prog X.w) p (strKind_is X.prog X.w z t) np) ⟨_, hm, ?_⟩
  rw [hf]
  exact ⟨v, H2, I2.tok _, ru, q2⟩
/-! ### a dict comprehension over any walk -/
theorem dc_it {J : It} {n : Nat} {G : Hp → Prop} {Y : Nat → Hp → V → Hp → Prop} (wk : Walk J n G Y) {g : TG} {tt : TT} {tk tv : TE} {vs : List Nat} {σ : L2.St} {H1 : Hp} {D : Addr} {Qd : Hp → Prop} (Pv : Nat → Hp → Prop) (h0 : Pv 0 (upd H1 D (.dK []))) (hG : ∀ i H, i ≤ n → Pv i H → G H)
    (hs : ∀ i x H H', i < n → Pv i H → Y i H x H' → g x (wipe σ vs) H' fun σ2 H2 => wipe σ2 vs = wipe σ vs ∧ tt σ2 H2 fun b H3 =>
      if b = true then tk σ2 H3 fun y H4 => tv σ2 H4 fun z H5 => ∃ kvs k, y = kV k ∧ H5 D = some (.dK kvs) ∧ kvs.length < sizeLine ∧ Pv (i + 1) (upd H5 D (.dK (putK kvs k z))) else Pv (i + 1) H3) (hd : ∀ H, Pv n H → Qd H) :
    ∃ W : Nat → Nat → Hp → Prop, (∃ m, W 0 m (upd H1 D (.dK []))) ∧ ∀ i m H, W i m H →
      (J.stop i H ∧ Qd H) ∨ (J.go i H ∧ ∃ Nx : Hp → Prop, (∀ H', Nx H' → ∃ m', m' < m ∧ W (i + 1) m' H') ∧ ∀ x H', J.yld i H x H' → g x (wipe σ vs) H' fun σ2 H2 => wipe σ2 vs = wipe σ vs ∧ tt σ2 H2 fun b H3 =>
        if b = true then tk σ2 H3 fun y H4 => tv σ2 H4 fun z H5 => ∃ kvs k, y = kV k ∧ H5 D = some (.dK kvs) ∧ kvs.length < sizeLine ∧ Nx (upd H5 D (.dK (putK kvs k z))) else Nx H3) := by
  refine ⟨fun i m H => m + i = n ∧ Pv i H, ⟨n, by omega, h0⟩, ?_⟩
  rintro i m H ⟨em, p⟩
  have hi : i ≤ n := by omega
  have g0 := hG i H hi p
  rcases Nat.lt_or_ge i n with lt | ge
  · exact .inr ⟨wk.goes i H lt g0, Pv (i + 1), fun H' p' => ⟨n - (i + 1), by omega, by omega, p'⟩, fun x H' y => hs i x H H' lt p (wk.yields i H x H' lt g0 y)⟩
  · have ei : i = n := by omega
    subst ei
    exact .inl ⟨wk.stops H g0, hd H p⟩
end OwnR

set_option Elab.async false
set_option linter.all false
set_option maxRecDepth 100000
set_option maxHeartbeats 1000000
namespace Sl
open PySem PySem.Spec L2 OwnR LamX
/-- a section: whether it is wide, its length -/
abbrev Sec := Bool × Nat
def kindS (b : Bool) : Str := if b then "wide" else "narrow"
def letterC (b : Bool) : Nat := if b then 119 else 110
def secV (s : Sec) : List V := [.str (kindS s.1), .int (s.2 : Nat)]
def SecsAt (H : Hp) (a : Addr) (secs : List Sec) : Prop := ∃ ts : List Addr, H a = some (.tup (ts.map V.ref)) ∧ ts.length = secs.length ∧ ∀ (i : Nat) (t : Addr) (s : Sec), ts[i]? = some t → secs[i]? = some s → H t = some (.tup (secV s))
theorem SecsAt.ext {H H' : Hp} {a : Addr} {secs : List Sec} (h : SecsAt H a secs) (e : ExtN H H') : SecsAt H' a secs := by
  obtain ⟨ts, h1, h2, h3⟩ := h
  exact ⟨ts, ExtN.tup e h1, h2, fun i t c e1 e2 => ExtN.tup e (h3 i t c e1 e2)⟩
structure SecsOk (secs : List Sec) : Prop where
  ne : secs ≠ []
  few : secs.length ≤ 12
  len : ∀ s ∈ secs, 1 ≤ s.2 ∧ s.2 ≤ 99
section
variable {P : Program} {w : World} {K : PySem.W.Frag} {mg : Str → Option Value} {base : Heap}
def spIsSection : Sp := fun vs H Q _ => ∃ (t : Addr) (s : Sec), vs = [.ref t] ∧ H t = some (.tup (secV s)) ∧ 1 ≤ s.2 ∧ s.2 ≤ 99 ∧ ∀ H', Same H H' → Q (.bl true) H'
theorem scIsSection : FnScope ["value", "kind", "length"] ["value"] (defScope sIsSection) := ⟨rfl, rfl, rfl, by decide +kernel, rfl, by decide +kernel, by decide +kernel⟩
theorem ok_isSection {f fB : Addr} {fd dB : FuncData} (F : Fb K mg "_is_section" sIsSection ["value"] f fd) (M : Mg mg) (BB : Fb K mg "is_number" sIsNumber ["value", "least", "most"] fB dB)
    (GB : FnOk P w K mg base CX0 1 fB dB ["value", "least", "most"] spIsNumber) : FnOk P w K mg base CX0 2 f fd ["value"] spIsSection := by
  obtain ⟨t1, M1⟩ := M.longestSection
  refine F.fn.ok scIsSection (fun vs H Q E h => ?_) (fun cdv A outer s H vs Q E hr h => ?_)
  · obtain ⟨t, c, rfl, _⟩ := h
    rfl
  · obtain ⟨t, c, rfl, ht, c1, c2, k⟩ := h
    have nd := scIsSection.nd
    refine ⟨_, pss_cons (ps_if (PW.pt (pw_or (pt_not (pt_val (pe_callB call_isi (by rfl) M.isinstance boot_isinstance (pa_cons (pv 0) (pa_cons (pe_bltn (v := .ty "tuple") (by rfl) M.tuple boot_tTuple rfl) pa_nil)))))
        (pw_or1 (pt_cmpR op_ne (pe_callB call_len_seq (by rfl) M.len boot_len (pa_cons (pv 0) pa_nil)) pe_int (nomark _))))) (pss_one (ps_ret pe_bl)) pss_nil)
      (pss_cons (ps_asg (pv 0) (pg_tup (by rfl) (pgs_cons (pg_name (i := 1) nd rfl (.inl rfl)) (pgs_cons (pg_name (i := 2) nd rfl (.inl rfl)) pgs_nil))))
      (pss_one (ps_ret (pe_and (pe_cmpR op_in_seq (pv 1) (pe_tup (pa_cons pe_str (pa_cons pe_str pa_nil))) (by rfl))
          (pe_one (pe_call GB hr (by rfl) BB.at_ BB.fn.kp BB.bd .nil pass0 (pa_cons (pv 2) (pa_cons pe_int (pa_cons (pe_glob (v := .int 99) (by rfl) M1 ⟨_, rfl⟩) pa_nil))))))))), ?_⟩
    refine ⟨_, rfl, _, _, _, _, true, rfl, .ty _, .base (.tup ht), kit_ty (by decide +kernel), true, rfl, iteF ?_⟩
    refine ⟨_, rfl, t, _, rfl, .inr (SqT.of ht), rfl, false, rfl, iteF ?_⟩
    refine ⟨_, rfl, t, secV c, rfl, SqT.of ht, rfl, _, _, rfl, _, _, rfl, rfl, ?_⟩
    refine ⟨_, rfl, by show 2 ≤ sizeLine; decide, fun p hp => ?_⟩
    refine ⟨p, _, rfl, .inr (SqT.of upd_same), rfl, rfl, true, ?_, iteT ?_⟩
    · show V.bl (inV (.str (kindS c.1)) _) = V.bl true
      cases c.1 <;> rfl
    refine ⟨_, rfl, (c.2 : Nat), 1, 99, rfl, ?_⟩
    rw [decide_eq_true (by omega : (1 : Int) ≤ (c.2 : Nat)), decide_eq_true (by omega : ((c.2 : Nat) : Int) ≤ 99)]
    exact k _ fun b o e => by rw [upd_ne (ne_of_none e hp)]; exact e
end
end Sl

set_option Elab.async false
set_option linter.all false
set_option maxRecDepth 100000
set_option maxHeartbeats 1000000
namespace Sl
open PySem PySem.Spec L2 OwnR LamX
def unitsL (secs : List Sec) : List Nat := secs.flatMap fun s => List.replicate s.2 (letterC s.1)
theorem unitsL_len : ∀ secs : List Sec, (unitsL secs).length = (secs.map (·.2)).sum
  | [] => rfl
  | s :: r => by
    have := unitsL_len r
    simp [unitsL] at this ⊢
theorem unitsL_snoc (secs : List Sec) (s : Sec) : unitsL (secs ++ [s]) = unitsL secs ++ List.replicate s.2 (letterC s.1) := by simp [unitsL]
theorem sum_le {secs : List Sec} (h : ∀ s ∈ secs, s.2 ≤ 99) : (secs.map (·.2)).sum ≤ 99 * secs.length := by
  induction secs with
  | nil => simp
  | cons s r ih =>
    have h1 := h s List.mem_cons_self
    have h2 := ih fun z hz => h z (List.mem_cons_of_mem _ hz)
    rw [List.map_cons, List.sum_cons, List.length_cons]
    omega
theorem ksu : ¬ (("_sections" : Str) = "_units") := by decide +kernel
/-- a Road's attributes -/
def rf (t : Addr) (u : Str) : List (Str × V) := putF "_units" (.str u) (putF "_sections" (.ref t) [])
theorem rf_eq (t : Addr) (u : Str) : rf t u = ([("_sections", V.ref t), ("_units", V.str u)] : List (Str × V)) := by
  show (if ("_sections" : Str) = "_units" then [(("_sections" : Str), V.str u)] else (("_sections" : Str), V.ref t) :: putF "_units" (V.str u) []) = ([("_sections", V.ref t), ("_units", V.str u)] : List (Str × V))
  rw [if_neg ksu]
  rfl
theorem rf_sections (t : Addr) (u : Str) : (rf t u).lookup ("_sections" : Str) = some (.ref t) := by
  unfold rf
  rw [lookup_putF, if_neg ksu, lookup_putF, if_pos rfl]
theorem rf_units (t : Addr) (u : Str) : (rf t u).lookup ("_units" : Str) = some (.str u) := by
  unfold rf
  rw [lookup_putF, if_pos rfl]
def RoadAt (C : Addr) (H : Hp) (p : Addr) (secs : List Sec) : Prop := ∃ dx t u, H p = some (.ins C dx (rf t u)) ∧ SecsAt H t secs ∧ u.cps.toList = unitsL secs
theorem RoadAt.ext {C : Addr} {H H' : Hp} {a : Addr} {secs : List Sec} (h : RoadAt C H a secs) (e : ExtN H H') : RoadAt C H' a secs := by
  obtain ⟨dx, t, u, h1, h2, h3⟩ := h
  exact ⟨dx, t, u, ExtN.ins e h1, h2.ext e, h3⟩
/-- what the program asks of the class Road and of the tables of letters -/
structure RoadT (K : PySem.W.Frag) (w : World) (mg : Str → Option Value) (C lp kp : Addr) : Prop where
  cl : Cls K C
  nS : NoAttr K C "_sections"
  nU : NoAttr K C "_units"
  mgC : mg "Road" = some (.ref C)
  mgL : mg "LETTERS" = some (.ref lp)
  mgK : mg "KINDS" = some (.ref kp)
  lN : KDct K w lp "narrow" (.str "n")
  lW : KDct K w lp "wide" (.str "w")
  kN : KDct K w kp "n" (.str "narrow")
  kW : KDct K w kp "w" (.str "wide")
  kM : (kp == sysModules) = false
def letterS (b : Bool) : Str := if b then "w" else "n"
theorem letter_toList (b : Bool) : (letterS b).cps.toList = [letterC b] := by cases b <;> decide +kernel
theorem joinL_nil : ∀ l : List (List Nat), TL.joinL [] l = l.flatten
  | [] => rfl
  | [p] => by simp [TL.joinL]
  | p :: q :: r => by
    have := joinL_nil (q :: r)
    simp [TL.joinL] at this ⊢
    exact this
theorem join_empty (ys : List Str) : (Txt.join ("" : Str) ys).cps.toList = (ys.map fun y => y.cps.toList).flatten := by
  have h := TL.tl_join ("" : Str) ys
  rw [TL.join_eq]
  have e : TL.tl ("" : Str) = [] := by decide +kernel
  rw [e, joinL_nil] at h
  exact h
section
variable {P : Program} {w : World} {K : PySem.W.Frag} {mg : Str → Option Value} {base : Heap}
theorem str_add_toList (i j : Str) : (i ++ j).cps.toList = i.cps.toList ++ j.cps.toList := by
  show (i.cps ++ j.cps).toList = _
  simp
theorem str_len_toList (i : Str) : i.length = i.cps.toList.length := by simp [Str.length]
theorem ip_addS {X : Cx} : PIp X .Add (fun x y H Q => ∃ i j, x = .str i ∧ y = .str j ∧ i.length + j.length ≤ sizeLine ∧ Q (.str (i ++ j)) H) := fun pins s σ H x y v u Q I rx ry h => iop_add_str pins s σ H x y v u Q I rx ry h
def spUnitsOf : Sp := fun vs H Q _ => ∃ (t : Addr) (secs : List Sec), vs = [.ref t] ∧ SecsAt H t secs ∧ SecsOk secs ∧ ∀ H' u, Same H H' → u.cps.toList = unitsL secs → Q (.str u) H'
def nUnitsOf : List Str := ["sections", "units", "kind", "length"]
theorem scUnitsOf : FnScope nUnitsOf ["sections"] (defScope sUnitsOf) := ⟨rfl, rfl, rfl, by decide +kernel, rfl, by decide +kernel, by decide +kernel⟩
theorem ok_unitsOf {f C lp kp : Addr} {fd : FuncData} (F : Fb K mg "_units_of" sUnitsOf ["sections"] f fd) (R : RoadT K w mg C lp kp) : FnOk P w K mg base CX0 1 f fd ["sections"] spUnitsOf := by
  refine F.fn.ok scUnitsOf (fun vs H Q E h => ?_) (fun cdv A outer s H vs Q E hr h => ?_)
  · obtain ⟨t, secs, rfl, _⟩ := h
    rfl
  · obtain ⟨t, secs, rfl, ⟨ts, ht, hlen, hsec⟩, S, k⟩ := h
    have nd := scUnitsOf.nd
    refine ⟨_, pss_cons (ps_set (i := 1) nd rfl (.inl rfl) pe_str)
      (pss_cons (ps_for PassesOwn.never rfl (pi_tup (pv 0)) (pg_tup rfl (pgs_cons (pg_name (i := 2) nd rfl (.inl rfl)) (pgs_cons (pg_name (i := 3) nd rfl (.inl rfl)) pgs_nil)))
        (pss_one (ps_aug (i := 1) nd rfl (.inl rfl) (pe_op op_repS (pe_ix (r := rIxD K w) ix_kdict (pe_glob (v := .ref lp) (by rfl) R.mgL rfl) (pv 2) (fun _ _ => rfl)) (pv 3)) ip_addS)))
      (pss_one (ps_ret (pv 1)))), ?_⟩
    have hts : (ts.map V.ref).length = secs.length := by rw [List.length_map, hlen]
    refine ⟨_, rfl, t, rfl, ⟨_, SqT.of ht⟩, for_it walk_tup (fun i σ H1 => ∃ u v2 v3, σ = [some (.ref t), some (.str u), v2, v3] ∧ Same H H1 ∧ u.cps.toList = unitsL (secs.take i))
      ⟨("" : Str), none, none, rfl, Same.refl H, by rw [List.take_zero]; decide +kernel⟩ (fun i σ H1 _ ⟨_, _, _, _, s1, _⟩ => SqT.of (s1 _ _ ht)) ?_ ?_⟩
    · rintro i y σ H1 H2 hi ⟨u, v2, v3, rfl, s1, eu⟩ ⟨e, hy⟩
      subst e
      have hic : i < secs.length := by rw [hts] at hi; exact hi
      obtain ⟨tt, htt, rfl⟩ : ∃ t, ts[i]? = some t ∧ y = V.ref t := by
        rw [List.getElem?_map] at hy
        obtain ⟨t, z1, z2⟩ := Option.map_eq_some_iff.mp hy
        exact ⟨t, z1, z2.symm⟩
      have hc : secs[i]? = some secs[i] := List.getElem?_eq_getElem hic
      have hct := s1 _ _ (hsec i tt _ htt hc)
      have c0 := S.len _ (List.getElem_mem hic)
      have hlk : KDct K w lp (kindS secs[i].1) (.str (letterS secs[i].1)) := by
        cases secs[i].1
        · exact R.lN
        · exact R.lW
      have hl1 : (letterS secs[i].1).length = 1 := by cases secs[i].1 <;> decide +kernel
      refine ⟨tt, _, rfl, SqT.of hct, rfl, _, _, rfl, _, _, rfl, rfl, ?_⟩
      refine ⟨_, rfl, _, rfl, lp, _, _, rfl, rfl, hlk, _, rfl, letterS secs[i].1, secs[i].2, rfl, rfl, c0.1, by omega, by rw [hl1]; omega, fun u2 hu2 => ?_⟩
      rw [letter_toList] at hu2
      have e2 : u2.cps.toList = List.replicate secs[i].2 (letterC secs[i].1) := by rw [hu2]; simp
      have hsz : u.length + u2.length ≤ sizeLine := by
        rw [str_len_toList, str_len_toList, eu, e2, List.length_replicate, unitsL_len]
        have h1 := sum_le (secs := secs.take i) fun s hs => (S.len s (List.mem_of_mem_take hs)).2
        have h2 : (secs.take i).length ≤ secs.length := by rw [List.length_take]; omega
        have h3 := S.few
        have h4 := c0.2
        exact Nat.le_trans (by omega : _ ≤ 2000) (by decide)
      refine ⟨u, u2, rfl, rfl, hsz, ?_⟩
      refine ⟨u ++ u2, _, _, rfl, s1, ?_⟩
      rw [str_add_toList, eu, e2, tk1 hc, unitsL_snoc]
    · rintro σ H1 ⟨u, v2, v3, rfl, s1, eu⟩
      refine ⟨_, rfl, ?_⟩
      have e9 : secs.take (ts.map V.ref).length = secs := by rw [hts, List.take_length]
      rw [e9] at eu
      exact k H1 u s1 eu
def spRInit0 (C : Addr) : Sp := fun vs H Q _ => ∃ (x dx t : Addr) (secs : List Sec), vs = [.ref x, .ref t] ∧ H x = some (.ins C dx []) ∧ SecsAt H t secs ∧ SecsOk secs ∧
  ∀ H' u, (∀ b o, H b = some o → b ≠ x → H' b = some o) → H' x = some (.ins C dx (rf t u)) → u.cps.toList = unitsL secs → Q .non H'
def nRInit : List Str := ["self", "sections", "index", "section"]
theorem scRInit : FnScope nRInit ["self", "sections"] (defScope sRInit) := ⟨rfl, rfl, rfl, by decide +kernel, rfl, by decide +kernel, by decide +kernel⟩
theorem ok_rInit {f fB fU C lp kp : Addr} {fd dB dU : FuncData} (F : Fun K "__init__" "Road.__init__" sRInit f fd) (M : Mg mg) (R : RoadT K w mg C lp kp) (BB : Fb K mg "_is_section" sIsSection ["value"] fB dB)
    (GB : FnOk P w K mg base CX0 2 fB dB ["value"] spIsSection) (BU : Fb K mg "_units_of" sUnitsOf ["sections"] fU dU) (GU : FnOk P w K mg base CX0 1 fU dU ["sections"] spUnitsOf) :
    FnR P w K mg base CX0 3 f (fun vs H Q E => ∃ ws rest, vs = ws ++ rest ∧ ws.length = (["self"] : List Str).length ∧ rest.length ≤ sizeLine ∧ ∀ p, H p = Option.none → spRInit0 C (ws ++ [V.ref p]) (upd H p (.tup rest)) Q E) := by
  obtain ⟨t1, M1⟩ := M.mostSections
  obtain ⟨oc, od, kV, doc, pm, an, cdv, ct, osl, rfl, lk, hcd⟩ := F.ex
  refine StX.fn_star lk hcd scRInit StX.cxUp_none (StX.bind_star1 (p1 := "self") (pv := "sections") (B := fun xs => bindArgs (PySem.W.fnOf "__init__" "Road.__init__" (defArgs sRInit) (defBody sRInit) (defScope sRInit) .none kV doc pm an cdv ct) ⟨xs, []⟩) (fun _ => rfl) (fun _ _ _ => rfl)) fun A outer s H vs Q E hr h => ?_
  obtain ⟨x, dx, t, secs, rfl, hx, ⟨ts, ht, hlen, hsec⟩, S, k⟩ := h
  have nd := scRInit.nd
  have hr1 : Room 1 (A.deeper (PyProof.Rows.envOfC "Road.__init__" (defScope sRInit) s.heap.objs.size f cdv)) := hr.mono (by decide)
  refine ⟨_, PSs.nox (pss_cons (ps_if (pt_not (pt_truth (pv 1) (by intro _; rfl))) (pss_one ps_never) pss_nil)
    (pss_cons (ps_for PassesOwn.never rfl (pi_enumT (by rfl) M.enumerate (pa_cons (pv 1) pa_nil)) (pg_tup rfl (pgs_cons (pg_name (i := 2) nd rfl (.inl rfl)) (pgs_cons (pg_name (i := 3) nd rfl (.inl rfl)) pgs_nil)))
      (pss_one (ps_if (PW.pt (pw_or (pt_cmpR op_eq (pv 2) (pe_glob (v := .int 12) (by rfl) M1 ⟨_, rfl⟩) (nomark _)) (pw_or1 (pt_not (pt_val (pe_call GB hr (by rfl) BB.at_ BB.fn.kp BB.bd .nil pass0 (pa_cons (pv 3) pa_nil))))))) (pss_one ps_never) pss_nil)))
    (pss_cons (ps_fld (pv 0) (pv 1) rfl)
    (pss_one (ps_fld (pv 0) (pe_call GU hr1 (by rfl) BU.at_ BU.fn.kp BU.bd .nil pass0 (pa_cons (pv 1) pa_nil)) rfl))))), ?_⟩
  have hts : (ts.map V.ref).length = secs.length := by rw [List.length_map, hlen]
  have hne : (ts.map V.ref).isEmpty = false := by
    cases ts with
    | nil =>
      exfalso
      exact S.ne (List.length_eq_zero_iff.mp hlen.symm)
    | cons _ _ => rfl
  refine ⟨_, rfl, true, .inr (.inl ⟨_, SqT.of ht, by rw [hne]; rfl⟩), iteF ?_⟩
  refine ⟨_, rfl, t, ts.map V.ref, rfl, SqT.of ht, for_it walk_enumT
    (fun i σ H1 => ∃ v2 v3, σ = [some (.ref x), some (.ref t), v2, v3] ∧ Same H H1)
    ⟨none, none, rfl, Same.refl H⟩ (fun i σ H1 _ ⟨_, _, _, s1⟩ => SqT.of (s1 _ _ ht)) ?_ ?_⟩
  · rintro i y σ H1 H2 hi ⟨v2, v3, rfl, s1⟩ ⟨T, x1, x2, rfl, hT, rfl, e1, e2⟩
    cases e1
    have hic : i < secs.length := by rw [hts] at hi; exact hi
    have e2 : (ts.map V.ref)[i]? = some x2 := e2
    obtain ⟨tt, htt, rfl⟩ : ∃ t, ts[i]? = some t ∧ x2 = V.ref t := by
      rw [List.getElem?_map] at e2
      obtain ⟨t, z1, z2⟩ := Option.map_eq_some_iff.mp e2
      exact ⟨t, z1, z2.symm⟩
    have hc : secs[i]? = some secs[i] := List.getElem?_eq_getElem hic
    have hct := hsec i tt _ htt hc
    have sT : Same H1 (upd H1 T (.tup [.int (i : Nat), .ref tt])) := fun b o e => by rw [upd_ne (ne_of_none e hT)]; exact e
    have c0 := S.len _ (List.getElem_mem hic)
    refine ⟨T, _, rfl, SqT.of upd_same, rfl, _, _, rfl, _, _, rfl, rfl, ?_⟩
    refine ⟨_, rfl, rfl, _, rfl, ?_⟩
    have ne12 : ¬ (V.int (i : Nat) = V.int 12) := fun z => by
      injection z with z
      have := S.few
      omega
    rw [decide_eq_false ne12]
    refine iteF ?_
    refine ⟨_, rfl, tt, secs[i], rfl, sT _ _ (s1 _ _ hct), c0.1, c0.2, fun H3 s3 => ⟨true, rfl, iteF ?_⟩⟩
    exact ⟨_, _, rfl, s1.trans (sT.trans s3)⟩
  · rintro σ H1 ⟨v2, v3, rfl, s1⟩
    have hx1 := s1 _ _ hx
    have ht1 := s1 _ _ ht
    have nxt : t ≠ x := ne_of ht1 hx1 (by intro z; cases z)
    refine ⟨_, rfl, _, rfl, x, C, dx, _, rfl, hx1, R.cl, R.nS, (by show 0 < 1000; decide), ?_⟩
    have sx : ∀ b o, H b = some o → b ≠ x → upd H1 x (.ins C dx (putF "_sections" (.ref t) [])) b = some o := fun b o e n => by rw [upd_ne n]; exact s1 b o e
    have hs2 : SecsAt (upd H1 x (.ins C dx (putF "_sections" (.ref t) []))) t secs := by
      refine ⟨ts, by rw [upd_ne nxt]; exact ht1, hlen, fun i a s e1 e2 => ?_⟩
      have h1 := s1 _ _ (hsec i a s e1 e2)
      rw [upd_ne (ne_of h1 hx1 (by intro z; cases z))]
      exact h1
    refine ⟨_, rfl, t, secs, rfl, hs2, S, fun H2 u k2 eU => ?_⟩
    have hx2 := k2 x _ upd_same
    refine ⟨_, rfl, x, C, dx, _, rfl, hx2, R.cl, R.nU, (by show 1 < 1000; decide), ?_⟩
    exact k _ _ (fun b o e n => by rw [upd_ne n]; exact k2 b o (sx b o e n)) upd_same eU
end
end Sl

/-! Runs of units: the longest runs of a list of Booleans. -/
namespace Sl
def rstep (acc : List (Bool × Nat)) (b : Bool) : List (Bool × Nat) := match acc.getLast? with
  | none => [(b, 1)]
  | some (k, n) => if k = b then acc.dropLast ++ [(k, n + 1)] else acc ++ [(b, 1)]
def runsOf (l : List Bool) : List (Bool × Nat) := l.foldl rstep []
theorem runsOf_snoc (l : List Bool) (b : Bool) : runsOf (l ++ [b]) = rstep (runsOf l) b := by
  unfold runsOf
  rw [List.foldl_append]
  rfl
theorem rstep_len (acc : List (Bool × Nat)) (b : Bool) : (rstep acc b).length ≤ acc.length + 1 := by
  unfold rstep
  split
  · simp
  · split
    · simp [List.length_dropLast]
    · simp
theorem runs_fold_len : ∀ (l : List Bool) (acc : List (Bool × Nat)), (l.foldl rstep acc).length ≤ acc.length + l.length
  | [], _ => by simp
  | b :: r, acc => by
    have h1 := runs_fold_len r (rstep acc b)
    have h2 := rstep_len acc b
    rw [List.foldl_cons, List.length_cons]
    omega
theorem runsOf_len (l : List Bool) : (runsOf l).length ≤ l.length := by
  have := runs_fold_len l []
  simpa [runsOf] using this
end Sl

set_option Elab.async false
set_option linter.all false
set_option maxRecDepth 100000
set_option maxHeartbeats 1000000
namespace Sl
open PySem PySem.Spec L2 OwnR LamX
section
variable {P : Program} {w : World} {K : PySem.W.Frag} {mg : Str → Option Value} {base : Heap}
/-! ### the property sections, len(road) -/
theorem scRSections : FnScope ["self"] ["self"] (defScope sRSections) := ⟨rfl, rfl, rfl, by decide +kernel, rfl, by decide +kernel, by decide +kernel⟩
theorem ok_rSections {f C lp kp : Addr} {fd : FuncData} (F : Fun K "sections" "Road.sections" sRSections f fd) (R : RoadT K w mg C lp kp) : FnOk P w K mg base CX0 1 f fd ["self"] (getSp C "_sections") := by
  obtain ⟨oc, od, kV, doc, pm, an, cdv, ct, osl, rfl, lk, hcd⟩ := F.ex
  exact fn_getter lk hcd scRSections rfl rfl R.cl R.nS
def spRLen (C : Addr) : Sp := fun vs H Q _ => ∃ (p : Addr) (secs : List Sec), vs = [.ref p] ∧ RoadAt C H p secs ∧ SecsOk secs ∧ Q (.int ((unitsL secs).length : Nat)) H
theorem scRLen : FnScope ["self"] ["self"] (defScope sRLen) := ⟨rfl, rfl, rfl, by decide +kernel, rfl, by decide +kernel, by decide +kernel⟩
theorem ok_rLen {f C lp kp : Addr} {fd : FuncData} (F : Fun K "__len__" "Road.__len__" sRLen f fd) (M : Mg mg) (R : RoadT K w mg C lp kp) : FnOk P w K mg base CX0 1 f fd ["self"] (spRLen C) := by
  refine F.ok scRLen (fun vs H Q E h => ?_) (fun cdv A outer s H vs Q E hr h => ?_)
  · obtain ⟨p, secs, rfl, _⟩ := h
    rfl
  · obtain ⟨p, secs, rfl, ⟨dx, t, u, hp, hs, hu⟩, S, k⟩ := h
    refine ⟨_, pss_one (ps_ret (pe_callB call_len_str (by rfl) M.len boot_len (pa_cons (pe_fld (pv 0) rfl) pa_nil))), ?_⟩
    have el : u.length = (unitsL secs).length := by rw [← hu]; simp [Str.length]
    have hz : u.length ≤ sizeLine := by
      rw [el, unitsL_len]
      have := sum_le fun s hs => (S.len s hs).2
      have := S.few
      exact Nat.le_trans (by omega : (secs.map (·.2)).sum ≤ 2000) (by decide)
    refine ⟨_, rfl, p, C, dx, _, _, rfl, hp, R.cl, R.nU, rf_units _ _, u, rfl, hz, ?_⟩
    rw [el]
    exact k
/-! ### _runs -/
def RunsAt (H : Hp) (a : Addr) (secs : List Sec) : Prop := ∃ ts : List Addr, H a = some (.lst (ts.map V.ref)) ∧ ts.length = secs.length ∧ ∀ (i : Nat) (t : Addr) (s : Sec), ts[i]? = some t → secs[i]? = some s → H t = some (.tup (secV s))
theorem letterS_eq (b : Bool) : (⟨#[letterC b]⟩ : Str) = letterS b := by cases b <;> decide +kernel
theorem letterS_inj (a b : Bool) : decide (V.str (letterS a) = V.str (letterS b)) = decide (a = b) := by cases a <;> cases b <;> decide +kernel
theorem snoc_of {α : Type} {l : List α} {m : Nat} (h : l.length = m + 1) : ∃ r x, l = r ++ [x] ∧ r.length = m := by
  have hne : l ≠ [] := fun z => by rw [z] at h; simp at h
  refine ⟨l.dropLast, l.getLast hne, (List.dropLast_concat_getLast hne).symm, ?_⟩
  rw [List.length_dropLast, h]
  rfl
structure RunsI (H H1 : Hp) (L : Addr) (acc : List Sec) (as : List Addr) : Prop where
  at_ : H1 L = some (.lst (as.map V.ref))
  len : as.length = acc.length
  nd : as.Nodup
  new : ∀ a ∈ as, H a = none ∧ a ≠ L
  it : ∀ (j : Nat) (a : Addr) (s : Sec), as[j]? = some a → acc[j]? = some s → H1 a = some (.lst [.str (letterS s.1), .int (s.2 : Nat)])
theorem RunsI.more {H H1 : Hp} {L : Addr} {acc : List Sec} {as : List Addr} (h : RunsI H H1 L acc as) (s1 : Same H H1) (hL : H L = none) {a : Addr} (ha : H1 a = none) (b : Bool) :
    RunsI H (upd (upd H1 a (.lst [.str (letterS b), .int 1])) L (.lst (as.map V.ref ++ [.ref a]))) L (acc ++ [(b, 1)]) (as ++ [a]) := by
  have naL : a ≠ L := fun z => by rw [z, h.at_] at ha; cases ha
  have nas : a ∉ as := fun z => by
    obtain ⟨j, hj⟩ := List.mem_iff_getElem?.mp z
    have hj2 : j < acc.length := by
      have := (List.getElem?_eq_some_iff.mp hj).1
      rw [← h.len]
      exact this
    have := h.it j a _ hj (List.getElem?_eq_getElem hj2)
    rw [ha] at this
    cases this
  refine ⟨by rw [upd_same, List.map_append]; rfl, by rw [List.length_append, List.length_append, h.len]; rfl, ?_, fun c hc => ?_, fun j c s e1 e2 => ?_⟩
  · rw [List.nodup_append]
    refine ⟨h.nd, by simp, fun x hx y hy => ?_⟩
    rw [List.mem_singleton.mp hy]
    exact fun z => nas (z ▸ hx)
  · rcases List.mem_append.mp hc with hc | hc
    · exact h.new c hc
    · rw [List.mem_singleton.mp hc]
      refine ⟨?_, naL⟩
      cases q : H a with
      | none => rfl
      | some o =>
        rw [s1 _ _ q] at ha
        cases ha
  · rcases Nat.lt_or_ge j as.length with lt | ge
    · rw [List.getElem?_append_left lt] at e1
      rw [List.getElem?_append_left (by rw [← h.len]; exact lt)] at e2
      have hc := List.mem_of_getElem? e1
      rw [upd_ne (h.new c hc).2, upd_ne (fun (z : c = a) => nas (by rw [← z]; exact hc))]
      exact h.it j c s e1 e2
    · rw [List.getElem?_append_right ge] at e1
      rw [List.getElem?_append_right (by rw [← h.len]; exact ge), ← h.len] at e2
      have e0 : j - as.length = 0 := by
        have := (List.getElem?_eq_some_iff.mp e1).1
        simp at this
        omega
      rw [e0] at e1 e2
      have e1 : a = c := by simpa using e1
      have e2 : (b, 1) = s := by simpa using e2
      subst e1 e2
      rw [upd_ne naL, upd_same]
      rfl
theorem RunsI.bump {H H1 : Hp} {L : Addr} {acc : List Sec} {as : List Addr} {k : Bool} {n : Nat} {a : Addr} (h : RunsI H H1 L (acc ++ [(k, n)]) (as ++ [a])) :
    RunsI H (upd H1 a (.lst [.str (letterS k), .int ((n : Nat) + 1)])) L (acc ++ [(k, n + 1)]) (as ++ [a]) := by
  have hl := h.len
  rw [List.length_append, List.length_append] at hl
  have hl : as.length = acc.length := by simpa using hl
  have na := h.new a (by simp)
  have nas : a ∉ as := fun z => by
    have := (List.nodup_append.mp h.nd).2.2 a z a (by simp)
    exact this rfl
  refine ⟨by rw [upd_ne na.2.symm]; exact h.at_, by simp [hl], h.nd, h.new, fun j c s e1 e2 => ?_⟩
  rcases Nat.lt_or_ge j as.length with lt | ge
  · rw [List.getElem?_append_left (by rw [← hl]; exact lt)] at e2
    have e1' := e1
    rw [List.getElem?_append_left lt] at e1'
    rw [upd_ne (fun (z : c = a) => nas (by rw [← z]; exact List.mem_of_getElem? e1'))]
    exact h.it j c s e1 (by rw [List.getElem?_append_left (by rw [← hl]; exact lt)]; exact e2)
  · rw [List.getElem?_append_right ge] at e1
    rw [List.getElem?_append_right (by rw [← hl]; exact ge), ← hl] at e2
    have e0 : j - as.length = 0 := by
      have := (List.getElem?_eq_some_iff.mp e1).1
      simp at this
      omega
    rw [e0] at e1 e2
    have e1 : a = c := by simpa using e1
    have e2 : (k, n + 1) = s := by simpa using e2
    subst e1 e2
    rw [upd_same]
    rfl
end
end Sl

set_option Elab.async false
set_option linter.all false
set_option maxRecDepth 100000
set_option maxHeartbeats 1000000
namespace Sl
open PySem PySem.Spec L2 OwnR LamX
abbrev spRInit (C : Addr) : Sp := fun vs H Q E => ∃ ws rest, vs = ws ++ rest ∧ ws.length = (["self"] : List Str).length ∧ rest.length ≤ sizeLine ∧ ∀ p, H p = Option.none → spRInit0 C (ws ++ [V.ref p]) (upd H p (.tup rest)) Q E
end Sl

/-! Driving, place by place. -/
namespace Sl
open OwnR
section
variable {N : Type} [DecidableEq N]
/-- the cars at a place: their order, their ticks -/
structure Pl (N : Type) where
  ord : List N
  tk : N → Int
def freeP (pace : N → Int) (p : Pl N) (len : Nat) (n : N) : Int := p.tk n + pace n * (len : Int)
def stepP (pace : N → Int) (p : Pl N) (s : Bool × Nat) : Pl N :=
  if s.1 then ⟨sortBy (freeP pace p s.2) p.ord, freeP pace p s.2⟩ else ⟨p.ord, tickOf (foll (freeP pace p s.2) p.ord)⟩
def leadP (pace : N → Int) (p : Pl N) (s : Bool × Nat) (n : N) : Option N := if s.1 then none else leadOf (foll (freeP pace p s.2) p.ord) n
def plc (pace : N → Int) (p0 : Pl N) (secs : List (Bool × Nat)) (k : Nat) : Pl N := (secs.take k).foldl (stepP pace) p0
theorem plc_zero (pace : N → Int) (p0 : Pl N) (secs : List (Bool × Nat)) : plc pace p0 secs 0 = p0 := rfl
theorem plc_succ (pace : N → Int) (p0 : Pl N) (secs : List (Bool × Nat)) {k : Nat} {s : Bool × Nat} (h : secs[k]? = some s) : plc pace p0 secs (k + 1) = stepP pace (plc pace p0 secs k) s := by
  unfold plc
  rw [List.take_add_one, h, List.foldl_append]
  rfl
/-- the leader in the section k -/
def ldr (pace : N → Int) (p0 : Pl N) (secs : List (Bool × Nat)) (k : Nat) (n : N) : Option N := match secs[k]? with
  | none => none
  | some s => leadP pace (plc pace p0 secs k) s n
theorem stepP_perm (pace : N → Int) (p : Pl N) (s : Bool × Nat) : (stepP pace p s).ord.Perm p.ord := by
  unfold stepP
  split
  · exact sortBy_perm _ _
  · exact List.Perm.refl _
theorem fold_perm (pace : N → Int) : ∀ (l : List (Bool × Nat)) (p : Pl N), (l.foldl (stepP pace) p).ord.Perm p.ord
  | [], _ => List.Perm.refl _
  | s :: r, p => (fold_perm pace r (stepP pace p s)).trans (stepP_perm pace p s)
theorem plc_perm (pace : N → Int) (p0 : Pl N) (secs : List (Bool × Nat)) (k : Nat) : (plc pace p0 secs k).ord.Perm p0.ord := fold_perm pace _ p0
end
end Sl

set_option Elab.async false
set_option linter.all false
set_option maxRecDepth 100000
set_option maxHeartbeats 1000000
namespace Sl
open PySem PySem.Spec L2 OwnR LamX
/-! ### a Drive's attributes -/
theorem k_ps : ¬ (("_paces" : Str) = "_sections") := by decide +kernel
theorem k_ts : ¬ (("_ticks" : Str) = "_sections") := by decide +kernel
theorem k_tp : ¬ (("_ticks" : Str) = "_paces") := by decide +kernel
theorem k_os : ¬ (("_orders" : Str) = "_sections") := by decide +kernel
theorem k_op : ¬ (("_orders" : Str) = "_paces") := by decide +kernel
theorem k_ot : ¬ (("_orders" : Str) = "_ticks") := by decide +kernel
theorem k_ls : ¬ (("_leaders" : Str) = "_sections") := by decide +kernel
theorem k_lp : ¬ (("_leaders" : Str) = "_paces") := by decide +kernel
theorem k_lt : ¬ (("_leaders" : Str) = "_ticks") := by decide +kernel
theorem k_lo : ¬ (("_leaders" : Str) = "_orders") := by decide +kernel
def df1 (sc : Addr) : List (Str × V) := putF "_sections" (.ref sc) []
def df2 (sc pd : Addr) : List (Str × V) := putF "_paces" (.ref pd) (df1 sc)
def df3 (sc pd lt : Addr) : List (Str × V) := putF "_ticks" (.ref lt) (df2 sc pd)
def df4 (sc pd lt lo : Addr) : List (Str × V) := putF "_orders" (.ref lo) (df3 sc pd lt)
def df5 (sc pd lt lo ll : Addr) : List (Str × V) := putF "_leaders" (.ref ll) (df4 sc pd lt lo)
section
variable (sc pd lt lo ll : Addr)
theorem df2_paces : (df2 sc pd).lookup ("_paces" : Str) = some (.ref pd) := by unfold df2; rw [lookup_putF, if_pos rfl]
theorem df3_ticks : (df3 sc pd lt).lookup ("_ticks" : Str) = some (.ref lt) := by unfold df3; rw [lookup_putF, if_pos rfl]
theorem df3_paces : (df3 sc pd lt).lookup ("_paces" : Str) = some (.ref pd) := by unfold df3; rw [lookup_putF, if_neg (Ne.symm k_tp)]; exact df2_paces sc pd
theorem df5_sections : (df5 sc pd lt lo ll).lookup ("_sections" : Str) = some (.ref sc) := by
  unfold df5 df4 df3 df2 df1
  rw [lookup_putF, if_neg (Ne.symm k_ls), lookup_putF, if_neg (Ne.symm k_os), lookup_putF, if_neg (Ne.symm k_ts), lookup_putF, if_neg (Ne.symm k_ps), lookup_putF, if_pos rfl]
theorem df5_paces : (df5 sc pd lt lo ll).lookup ("_paces" : Str) = some (.ref pd) := by
  unfold df5 df4
  rw [lookup_putF, if_neg (Ne.symm k_lp), lookup_putF, if_neg (Ne.symm k_op)]
  exact df3_paces sc pd lt
theorem df5_ticks : (df5 sc pd lt lo ll).lookup ("_ticks" : Str) = some (.ref lt) := by
  unfold df5 df4
  rw [lookup_putF, if_neg (Ne.symm k_lt), lookup_putF, if_neg (Ne.symm k_ot)]
  exact df3_ticks sc pd lt
theorem df5_orders : (df5 sc pd lt lo ll).lookup ("_orders" : Str) = some (.ref lo) := by
  unfold df5 df4
  rw [lookup_putF, if_neg (Ne.symm k_lo), lookup_putF, if_pos rfl]
theorem df5_leaders : (df5 sc pd lt lo ll).lookup ("_leaders" : Str) = some (.ref ll) := by
  unfold df5
  rw [lookup_putF, if_pos rfl]
theorem df5_no {m : Str} (h1 : ¬ m = "_sections") (h2 : ¬ m = "_paces") (h3 : ¬ m = "_ticks") (h4 : ¬ m = "_orders") (h5 : ¬ m = "_leaders") : (df5 sc pd lt lo ll).lookup m = none := by
  unfold df5 df4 df3 df2 df1
  rw [lookup_putF, if_neg h5, lookup_putF, if_neg h4, lookup_putF, if_neg h3, lookup_putF, if_neg h2, lookup_putF, if_neg h1]
  rfl
theorem df1_len : (df1 sc).length = 1 := rfl
theorem putF_len (f : Str) (v : V) : ∀ l : List (Str × V), (putF f v l).length ≤ l.length + 1
  | [] => by simp [putF]
  | (g, x) :: r => by
    unfold putF
    split
    · simp
    · have := putF_len f v r
      simp
      omega
end
/-! ### cars as functions of their names -/
def names (cars : List Car) : List Str := cars.map (·.name)
def paceOf (cars : List Car) (n : Str) : Int := ((cars.find? fun c => decide (c.name = n)).map (·.pace)).getD 0
def startOf (cars : List Car) (n : Str) : Int := ((cars.find? fun c => decide (c.name = n)).map (·.start)).getD 0
def pl0 (cars : List Car) : Pl Str := ⟨sortBy (startOf cars) (names cars), startOf cars⟩
abbrev plcC (secs : List Sec) (cars : List Car) (k : Nat) : Pl Str := plc (paceOf cars) (pl0 cars) secs k
abbrev ldrC (secs : List Sec) (cars : List Car) (k : Nat) (n : Str) : Option Str := ldr (paceOf cars) (pl0 cars) secs k n
theorem find_car {cars : List Car} (nd : (names cars).Nodup) {c : Car} (h : c ∈ cars) : cars.find? (fun d => decide (d.name = c.name)) = some c := by
  induction cars with
  | nil => cases h
  | cons a l ih =>
    unfold names at nd
    rw [List.map_cons, List.nodup_cons] at nd
    rcases List.mem_cons.mp h with e | h
    · subst e
      simp
    · have hne : ¬ a.name = c.name := fun z => nd.1 (by rw [z]; exact List.mem_map.mpr ⟨c, h, rfl⟩)
      rw [List.find?_cons, decide_eq_false hne]
      exact ih nd.2 h
theorem paceOf_car {cars : List Car} (nd : (names cars).Nodup) {c : Car} (h : c ∈ cars) : paceOf cars c.name = c.pace := by
  unfold paceOf
  rw [find_car nd h]
  rfl
theorem startOf_car {cars : List Car} (nd : (names cars).Nodup) {c : Car} (h : c ∈ cars) : startOf cars c.name = c.start := by
  unfold startOf
  rw [find_car nd h]
  rfl
theorem pl0_perm (cars : List Car) : (pl0 cars).ord.Perm (names cars) := sortBy_perm _ _
theorem plcC_perm (secs : List Sec) (cars : List Car) (k : Nat) : (plcC secs cars k).ord.Perm (names cars) := (plc_perm _ _ _ _).trans (pl0_perm cars)
/-- the dict of the paces -/
def paceK (cars : List Car) : List (Key × V) := cars.map fun c => (Sum.inr c.name, V.int c.pace)
theorem valV_names {g : Car → V} {cars : List Car} (nd : (names cars).Nodup) {c : Car} (h : c ∈ cars) : valV (cars.map fun c => ((Sum.inr c.name : Key), g c)) (Sum.inr c.name : Key) = some (g c) := by
  induction cars with
  | nil => cases h
  | cons a l ih =>
    unfold names at nd
    rw [List.map_cons, List.nodup_cons] at nd
    rcases List.mem_cons.mp h with e | h
    · subst e
      exact valV_pos rfl
    · have hne : ¬ (Sum.inr a.name : Key) = Sum.inr c.name := fun z => nd.1 (by rw [Sum.inr.inj z]; exact List.mem_map.mpr ⟨c, h, rfl⟩)
      rw [List.map_cons, valV_neg hne]
      exact ih nd.2 h
theorem paceK_get {cars : List Car} (nd : (names cars).Nodup) {n : Str} (h : n ∈ names cars) : valV (paceK cars) (Sum.inr n : Key) = some (.int (paceOf cars n)) := by
  obtain ⟨c, hc, rfl⟩ := List.mem_map.mp h
  rw [paceOf_car nd hc]
  exact valV_names (g := fun c => V.int c.pace) nd hc
/-! ### a Drive of which m sections are driven -/
structure DW where
  dx : Addr
  sc : Addr
  pd : Addr
  lt : Addr
  lo : Addr
  ll : Addr
  tds : List Addr
  ods : List Addr
  lds : List Addr
structure DP (C : Addr) (H0 H : Hp) (p : Addr) (secs : List Sec) (cars : List Car) (m : Nat) (W : DW) : Prop where
  ext : ExtN H0 H
  ins : H p = some (.ins C W.dx (df5 W.sc W.pd W.lt W.lo W.ll))
  sec : SecsAt H W.sc secs
  pac : H W.pd = some (.dK (paceK cars))
  lt : H W.lt = some (.lst (W.tds.map V.ref))
  ltl : W.tds.length = m + 1
  lo : H W.lo = some (.lst (W.ods.map V.ref))
  lol : W.ods.length = m + 1
  ll : H W.ll = some (.lst (W.lds.map V.ref))
  lll : W.lds.length = m
  tk : ∀ (k : Nat) (d : Addr), W.tds[k]? = some d → ∃ kv, H d = some (.dK kv) ∧ ∀ n ∈ names cars, valV kv (Sum.inr n : Key) = some (.int ((plcC secs cars k).tk n))
  od : ∀ (k : Nat) (d : Addr), W.ods[k]? = some d → H d = some (.lst ((plcC secs cars k).ord.map V.str))
  ld : ∀ (k : Nat) (d : Addr), W.lds[k]? = some d → ∃ kv, H d = some (.dK kv) ∧ ∀ n, valV kv (Sum.inr n : Key) = (ldrC secs cars k n).map V.str
  newp : New H0 p
  newt : New H0 W.lt
  newo : New H0 W.lo
  newl : New H0 W.ll
  nto : W.lt ≠ W.lo
  ntl : W.lt ≠ W.ll
  nol : W.lo ≠ W.ll
  odn : ∀ d ∈ W.ods, d ≠ W.lt ∧ d ≠ W.lo ∧ d ≠ W.ll
theorem DP.step {C : Addr} {H0 H H' : Hp} {p : Addr} {secs : List Sec} {cars : List Car} {m : Nat} {W : DW} (D : DP C H0 H p secs cars m W) (e : ExtN H H') : DP C H0 H' p secs cars m W where
  ext := D.ext.trans e
  ins := ExtN.ins e D.ins
  sec := D.sec.ext e
  pac := ExtN.dK e D.pac
  lt := ExtN.lst e D.lt
  ltl := D.ltl
  lo := ExtN.lst e D.lo
  lol := D.lol
  ll := ExtN.lst e D.ll
  lll := D.lll
  tk := fun k d h => let ⟨kv, a, b⟩ := D.tk k d h; ⟨kv, ExtN.dK e a, b⟩
  od := fun k d h => ExtN.lst e (D.od k d h)
  ld := fun k d h => let ⟨kv, a, b⟩ := D.ld k d h; ⟨kv, ExtN.dK e a, b⟩
  newp := D.newp
  newt := D.newt
  newo := D.newo
  newl := D.newl
  nto := D.nto
  ntl := D.ntl
  nol := D.nol
  odn := D.odn
/-- the lists of a drive of which m sections are driven, wherever they stand -/
structure DL (H0 H : Hp) (secs : List Sec) (cars : List Car) (m : Nat) (W : DW) : Prop where
  ext : ExtN H0 H
  lt : H W.lt = some (.lst (W.tds.map V.ref))
  ltl : W.tds.length = m + 1
  lo : H W.lo = some (.lst (W.ods.map V.ref))
  lol : W.ods.length = m + 1
  ll : H W.ll = some (.lst (W.lds.map V.ref))
  lll : W.lds.length = m
  tk : ∀ (k : Nat) (d : Addr), W.tds[k]? = some d → ∃ kv, H d = some (.dK kv) ∧ ∀ n ∈ names cars, valV kv (Sum.inr n : Key) = some (.int ((plcC secs cars k).tk n))
  od : ∀ (k : Nat) (d : Addr), W.ods[k]? = some d → H d = some (.lst ((plcC secs cars k).ord.map V.str))
  ld : ∀ (k : Nat) (d : Addr), W.lds[k]? = some d → ∃ kv, H d = some (.dK kv) ∧ ∀ n, valV kv (Sum.inr n : Key) = (ldrC secs cars k n).map V.str
  newt : New H0 W.lt
  newo : New H0 W.lo
  newl : New H0 W.ll
  nto : W.lt ≠ W.lo
  ntl : W.lt ≠ W.ll
  nol : W.lo ≠ W.ll
  odn : ∀ d ∈ W.ods, d ≠ W.lt ∧ d ≠ W.lo ∧ d ≠ W.ll
theorem DL.step {H0 H H' : Hp} {secs : List Sec} {cars : List Car} {m : Nat} {W : DW} (D : DL H0 H secs cars m W) (e : ExtN H H') : DL H0 H' secs cars m W where
  ext := D.ext.trans e
  lt := ExtN.lst e D.lt
  ltl := D.ltl
  lo := ExtN.lst e D.lo
  lol := D.lol
  ll := ExtN.lst e D.ll
  lll := D.lll
  tk := fun k d h => let ⟨kv, a, b⟩ := D.tk k d h; ⟨kv, ExtN.dK e a, b⟩
  od := fun k d h => ExtN.lst e (D.od k d h)
  ld := fun k d h => let ⟨kv, a, b⟩ := D.ld k d h; ⟨kv, ExtN.dK e a, b⟩
  newt := D.newt
  newo := D.newo
  newl := D.newl
  nto := D.nto
  ntl := D.ntl
  nol := D.nol
  odn := D.odn
/-- the dict of the starts -/
def startK (cars : List Car) : List (Key × V) := cars.map fun c => (Sum.inr c.name, V.int c.start)
theorem startK_get {cars : List Car} (nd : (names cars).Nodup) {n : Str} (h : n ∈ names cars) : valV (startK cars) (Sum.inr n : Key) = some (.int (startOf cars n)) := by
  obtain ⟨c, hc, rfl⟩ := List.mem_map.mp h
  rw [startOf_car nd hc]
  exact valV_names (g := fun c => V.int c.start) nd hc
theorem startK_keys (cars : List Car) : (startK cars).map (fun kv => kV kv.1) = (names cars).map V.str := by
  unfold startK names
  rw [List.map_map, List.map_map]
  rfl
end Sl

set_option Elab.async false
set_option linter.all false
set_option maxRecDepth 100000
set_option maxHeartbeats 2000000
namespace OwnR
open PySem PySem.Spec PyProof.Rows L2
/-! ### y = {k: v for x in xs} as a statement -/
theorem ps_setDc {X : Cx} {i : Nat} {y : Str} {py : Pos} {kx vx tg iter : Expr} {ifs : List Expr} {scope : Scope} {own : List (Str × Nat)} {pos spos : Pos} {wi : TI} {g : TG} {tt : TT} {tk tv : TE} (hc : X.calm = true) (hN : X.N.Nodup) (hy : X.N[i]? = some y) (hyl : X.env.scope.names.lookup y = some .local)
    (hsw : swapsWith (.DictComp kx vx [⟨tg, iter, ifs, 0⟩] scope pos) (some (.Name y py)) spos.line X.env = pure true) (hi : PI X tg iter wi) (ok : BlkOk X.N X.env.scope scope own)
    (hg : ∀ (s : Shared) (H : Hp) (C : Addr) (cl : List (Str × Addr)) (fp : List Addr), PG (X.blk s H scope (compEnvC scope cl C X.env) fp) tg g)
    (ht : ∀ (s : Shared) (H : Hp) (C : Addr) (cl : List (Str × Addr)) (fp : List Addr), PTs (X.blk s H scope (compEnvC scope cl C X.env) fp) ifs tt)
    (hk : ∀ (s : Shared) (H : Hp) (C : Addr) (cl : List (Str × Addr)) (fp : List Addr), PE (X.blk s H scope (compEnvC scope cl C X.env) fp) kx tk)
    (hv : ∀ (s : Shared) (H : Hp) (C : Addr) (cl : List (Str × Addr)) (fp : List Addr), PE (X.blk s H scope (compEnvC scope cl C X.env) fp) vx tv) (hs : ∀ x, foldedSetIterable iter X.env x = pure x := by intro _; rfl) :
    PS X (.Assign [.Name y py] (.DictComp kx vx [⟨tg, iter, ifs, 0⟩] scope pos) spos) (tAsg (tDc wi g tt tk tv (own.map (·.2))) (gName i)) := by
  refine ⟨fun pins s σ H D I h => ?_⟩
  have h' : tDc wi g tt tk tv (own.map (·.2)) σ H (fun x H1 => gName i x σ H1 D.nx) := h
  rw [exec_Assign_Name_used _ _ _ _ hsw]
  refine wpAny_bind (wpAny_standAt (wpAny_bind ?_))
  show wpAny _ X.A (do let _ ← comprehension (.DictComp kx vx [⟨tg, iter, ifs, 0⟩] scope pos) scope X.env (firstIterPos [⟨tg, iter, ifs, 0⟩] pos) newDict false (eval iter X.env) (some (assign (.Name y py) X.env))) _ _ s
  refine wpAny_bind (thn (dc_core (Qf := fun _ s' => SP X pins D .next s') hc hN I hi ok hg ht hk hv hs h' fun Dn C s' m H' J q hn f => ?_) fun _ s' hq => wpAny_pure (wpAny_pure hq))
  obtain ⟨f0, f1, f2, f3, f4, f5⟩ := f
  show wpAny _ _ (assign (.Name y py) X.env (.ref Dn)) _ _ _
  refine wpAny_assign_Name (store_ok2 (v := V.ref Dn) J hN hy (.inl hyl) rfl (fun s2 J2 ⟨a, sb, ha⟩ => ?_) (.inr hyl))
  have nCa : C ≠ a := ha.elim (fun z => by rw [z]; exact f1) fun z => fun e => f4 y a z e.symm
  exact ⟨m, hn.sameBut sb nCa, fun h3 sb3 => ⟨_, H', J2.turned (t' := s2.toks) (fun b o hb e => (sb3.2 b hb).trans e) f0 f1 f3 f4 f5, q⟩⟩
theorem sw_trueD {kx vx : Expr} {gs : List Comprehension} {scope : Scope} {pos py : Pos} {y : Str} {l : Nat} {env : Env} (hk : env.scope.kind = .function) (hy : env.scope.names.lookup y = some .local) (hl : (py.line == pos.line) = true)
    (ha : (scope.names.any fun (n, k) => n == y && (k == .local || k == .cell)) = false) : swapsWith (.DictComp kx vx gs scope pos) (some (.Name y py)) l env = pure true := by
  have k1 : env.kindOf y = some .local := hy
  have k2 : env.blockKind = .function := by
    unfold Env.blockKind
    rw [hk] <;> rfl
  unfold swapsWith
  simp only [k2, k1, ha, Expr.pos, hl] <;> rfl
end OwnR

set_option Elab.async false
set_option linter.all false
set_option maxRecDepth 100000
set_option maxHeartbeats 2000000
namespace OwnR
open PySem PySem.Spec PyProof.Rows L2
/-! ### a field as a target among others -/
def gFld (K : PySem.W.Frag) (ta : TE) (f : Str) : TG := fun v σ H Q => ta σ H fun x H1 => ∃ a C dx fs, x = .ref a ∧ H1 a = some (.ins C dx fs) ∧ Cls K C ∧ NoAttr K C f ∧ fs.length < 1000 ∧ Q σ (upd H1 a (.ins C dx (putF f v fs)))
theorem pg_fld {X : Cx} {o : Expr} {f : Str} {pos : Pos} {ta : TE} (ha : PE X o ta) : PG X (.Attribute o f pos) (gFld X.K ta f) := by
  refine ⟨fun pins s σ H v u Q I r h => ?_⟩
  rw [assign_Attribute]
  refine wpAny_bind (wpAny_holding (thn (ha.run pins s σ H _ I h) fun ov s1 ⟨x, H1, I1, rx, a, C, dx, fs, ex, ea, c, n, l, q⟩ => ?_))
  subst ex
  obtain rfl : ov = Value.ref a := rx
  refine wpAny_bind (wpAny_standAt (wpAny_bind (wpAny_holding (setattr_ok I1 ea c n l r fun s3 I3 => ?_))))
  exact wpAny_release ⟨σ, _, I3, q⟩
end OwnR

set_option Elab.async false
set_option linter.all false
set_option maxRecDepth 100000
set_option maxHeartbeats 1000000
namespace Sl
open PySem PySem.Spec L2 OwnR LamX
/-- three lists of a Drive, each one longer -/
def upd3 (H : Hp) (W : DW) (td od ld : Addr) : Hp := upd (upd (upd H W.lt (.lst (W.tds.map V.ref ++ [.ref td]))) W.lo (.lst (W.ods.map V.ref ++ [.ref od]))) W.ll (.lst (W.lds.map V.ref ++ [.ref ld]))
def DW.more (W : DW) (td od ld : Addr) : DW := { W with tds := W.tds ++ [td], ods := W.ods ++ [od], lds := W.lds ++ [ld] }
theorem snoc_get {α : Type} {l : List α} {x y : α} {k : Nat} (h : (l ++ [x])[k]? = some y) : l[k]? = some y ∨ (k = l.length ∧ x = y) := by
  rcases Nat.lt_or_ge k l.length with lt | ge
  · rw [List.getElem?_append_left lt] at h
    exact .inl h
  · rw [List.getElem?_append_right ge] at h
    have e0 : k - l.length = 0 := by
      have := (List.getElem?_eq_some_iff.mp h).1
      simp at this
      omega
    rw [e0] at h
    exact .inr ⟨by omega, by simpa using h⟩
theorem DL.push {H0 H : Hp} {secs : List Sec} {cars : List Car} {m : Nat} {W : DW} (D : DL H0 H secs cars m W) {td od ld : Addr} {kt kl : List (Key × V)}
    (h1 : H td = some (.dK kt)) (t1 : ∀ n ∈ names cars, valV kt (Sum.inr n : Key) = some (.int ((plcC secs cars (m + 1)).tk n)))
    (h2 : H od = some (.lst ((plcC secs cars (m + 1)).ord.map V.str))) (o2 : od ≠ W.lt ∧ od ≠ W.lo ∧ od ≠ W.ll)
    (h3 : H ld = some (.dK kl)) (l3 : ∀ n, valV kl (Sum.inr n : Key) = (ldrC secs cars m n).map V.str) : DL H0 (upd3 H W td od ld) secs cars (m + 1) (W.more td od ld) := by
  have old : ∀ b o, H b = some o → b ≠ W.lt → b ≠ W.lo → b ≠ W.ll → upd3 H W td od ld b = some o := fun b o e n1 n2 n3 => by
    unfold upd3
    rw [upd_ne n3, upd_ne n2, upd_ne n1]
    exact e
  have nl : ∀ b o, H b = some o → (∀ xs, o ≠ .lst xs) → upd3 H W td od ld b = some o := fun b o e n =>
    old b o e (ne_of e D.lt (n _)) (ne_of e D.lo (n _)) (ne_of e D.ll (n _))
  refine { D with ext := ?_, lt := ?_, ltl := ?_, lo := ?_, lol := ?_, ll := ?_, lll := ?_, tk := ?_, od := ?_, ld := ?_, odn := ?_ }
  · exact fun b o e n => old b o (D.ext b o e n) (D.newt b o e n) (D.newo b o e n) (D.newl b o e n)
  · show upd3 H W td od ld W.lt = some (.lst ((W.tds ++ [td]).map V.ref))
    unfold upd3
    rw [upd_ne D.ntl, upd_ne D.nto, upd_same, List.map_append]
    rfl
  · show (W.tds ++ [td]).length = _
    rw [List.length_append, D.ltl]
    rfl
  · show upd3 H W td od ld W.lo = some (.lst ((W.ods ++ [od]).map V.ref))
    unfold upd3
    rw [upd_ne D.nol, upd_same, List.map_append]
    rfl
  · show (W.ods ++ [od]).length = _
    rw [List.length_append, D.lol]
    rfl
  · show upd3 H W td od ld W.ll = some (.lst ((W.lds ++ [ld]).map V.ref))
    unfold upd3
    rw [upd_same, List.map_append]
    rfl
  · show (W.lds ++ [ld]).length = _
    rw [List.length_append, D.lll]
    rfl
  · intro k d h
    rcases snoc_get (show (W.tds ++ [td])[k]? = some d from h) with h | ⟨hk, rfl⟩
    · obtain ⟨kv, a, b⟩ := D.tk k d h
      exact ⟨kv, nl _ _ a fun xs z => (nomatch z), b⟩
    · rw [D.ltl] at hk
      subst hk
      exact ⟨kt, nl _ _ h1 fun xs z => (nomatch z), t1⟩
  · intro k d h
    rcases snoc_get (show (W.ods ++ [od])[k]? = some d from h) with h | ⟨hk, rfl⟩
    · have q := D.odn d (List.mem_of_getElem? h)
      exact old _ _ (D.od k d h) q.1 q.2.1 q.2.2
    · rw [D.lol] at hk
      subst hk
      exact old _ _ h2 o2.1 o2.2.1 o2.2.2
  · intro k d h
    rcases snoc_get (show (W.lds ++ [ld])[k]? = some d from h) with h | ⟨hk, rfl⟩
    · obtain ⟨kv, a, b⟩ := D.ld k d h
      exact ⟨kv, nl _ _ a fun xs z => (nomatch z), b⟩
    · rw [D.lll] at hk
      subst hk
      exact ⟨kl, nl _ _ h3 fun xs z => (nomatch z), l3⟩
  · intro d hd
    rcases List.mem_append.mp (show d ∈ W.ods ++ [od] from hd) with hd | hd
    · exact D.odn d hd
    · rw [List.mem_singleton.mp hd]
      exact o2
theorem Tabs.keepL {T : List (Addr × Str)} {H H' : Hp} (t : Tabs T H) (e : ∀ b o, H b = some o → (∀ xs, o ≠ .lst xs) → H' b = some o) : Tabs T H' := fun p hp => by
  obtain ⟨ps, h1, h2, h3⟩ := t p hp
  refine ⟨ps, e _ _ h1 fun xs z => (nomatch z), h2, fun pos cv hc => ?_⟩
  obtain ⟨c, e1, e2⟩ := h3 pos cv hc
  exact ⟨c, e1, e _ _ e2 fun xs z => by unfold CodeO at z; cases z⟩
theorem upd3_keep {H : Hp} {W : DW} {td od ld : Addr} {a b c : List V} (h1 : H W.lt = some (.lst a)) (h2 : H W.lo = some (.lst b)) (h3 : H W.ll = some (.lst c)) : ∀ x o, H x = some o → (∀ xs, o ≠ .lst xs) → upd3 H W td od ld x = some o := fun x o e n => by
  unfold upd3
  rw [upd_ne (ne_of e h3 (n _)), upd_ne (ne_of e h2 (n _)), upd_ne (ne_of e h1 (n _))]
  exact e
theorem lead_map (acc : List (RowT Str)) (n : Str) : ((look acc n).bind fun x => x.2.map V.str) = (leadOf acc n).map V.str := by
  unfold leadOf
  cases look acc n with
  | none => rfl
  | some x => rfl
/-- what the program asks of the class Drive -/
structure DriveT (K : PySem.W.Frag) (mg : Str → Option Value) (C : Addr) : Prop where
  cl : Cls K C
  nS : NoAttr K C "_sections"
  nP : NoAttr K C "_paces"
  nT : NoAttr K C "_ticks"
  nO : NoAttr K C "_orders"
  nL : NoAttr K C "_leaders"
  mgC : mg "Drive" = some (.ref C)
/-- a method of a class, as callers want it -/
structure Fm (K : PySem.W.Frag) (C : Addr) (x qual : Str) (st : Stmt) (ps : List Str) (f : Addr) (fd : FuncData) : Prop where
  fn : Fun K x qual st f fd
  at_ : Meth K C x f
  bd : Binds K fd ps []
section
variable {P : Program} {w : World} {K : PySem.W.Frag} {mg : Str → Option Value} {base : Heap}
def spDriveAll (K : PySem.W.Frag) (T : List (Addr × Str)) : Sp := fun vs H Q _ => ∃ (sc sd pd : Addr) (secs : List Sec) (cars : List Car), vs = [.ref sc, .ref sd, .ref pd] ∧ SecsAt H sc secs ∧ H sd = some (.dK (startK cars)) ∧ H pd = some (.dK (paceK cars)) ∧ SecsOk secs ∧ CarsOk cars ∧ Tabs T H ∧
  ∀ H' t W, DL H H' secs cars secs.length W → H' t = some (.tup [.ref W.lt, .ref W.lo, .ref W.ll]) → New H t → Tabs T H' → Q (.ref t) H'
def nDriveAll : List Str := ["sections", "starts", "paces", "ticks", "orders", "leaders", "kind", "length", "order", "left", "led", "car"]
theorem scDriveAll : FnScope nDriveAll ["sections", "starts", "paces"] (defScope sDriveAll) := ⟨rfl, rfl, rfl, by decide +kernel, rfl, by decide +kernel, by decide +kernel⟩
theorem atI_lst {α : Type} {xs : List α} {m : Nat} {v : α} (hl : xs.length = m + 1) (h : xs[m]? = some v) : atI xs (-1) = some v := by
  obtain ⟨r, x, e, hr⟩ := snoc_of hl
  subst e
  rw [List.getElem?_append_right (by omega), hr] at h
  simp at h
  subst h
  exact atI_last _ _
theorem ok_driveAll {f fO fF c Pt : Addr} {fd dO dF : FuncData} {T : List (Addr × Str)} (F : Fun K "drive_all" "drive_all" sDriveAll f fd) (M : Mg mg)
    (BO : FbC K mg "_in_order" sInOrder ["names", "ticks"] fO dO c) (BF : Fb K mg "_follow" sFollow ["order", "free"] fF dF)
    (GO : FnOk P w K mg base CX0 3 fO dO ["names", "ticks"] (spInOrder K T)) (GF : FnOk P w K mg base CX0 1 fF dF ["order", "free"] (spFollow K)) :
    FnOk P w K mg base CX0 4 f fd ["sections", "starts", "paces"] (spDriveAll K T) := by
  refine F.ok scDriveAll (fun vs H Q E h => ?_) (fun cdv A outer s H vs Q E hr h => ?_)
  · obtain ⟨sc, sd, pd, secs, cars, rfl, _⟩ := h
    rfl
  · obtain ⟨sc, sd, pd, secs, cars, rfl, hS, hsd, hpd, SO, CO, hT, k⟩ := h
    have nd := scDriveAll.nd
    have hu := hu_of hr
    refine ⟨_, pss_cons (ps_set (i := 3) nd rfl (.inr rfl) (pe_lst (pa_cons (pv 1) pa_nil)))
      (pss_cons (ps_set (i := 4) nd rfl (.inl rfl) (pe_lst (pa_cons (pe_call GO hr (by rfl) BO.at_ BO.fn.kp BO.bd .nil pass0 (pa_cons (pe_callTy (call_list_dK rfl) (by rfl) M.list (by decide +kernel) (pa_cons (pv 1) pa_nil)) (pa_cons (pv 1) pa_nil))) pa_nil)))
      (pss_cons (ps_set (i := 5) nd rfl (.inl rfl) (pe_lst pa_nil))
      (pss_cons (ps_for PassesOwn.never rfl (pi_tup (pv 0)) (pg_tup rfl (pgs_cons (pg_name (i := 6) nd rfl (.inl rfl)) (pgs_cons (pg_name (i := 7) nd rfl (.inr rfl)) pgs_nil)))
        (pss_cons (ps_set (i := 8) nd rfl (.inl rfl) (pe_ix ix_list (pv 4) (pe_un un_neg pe_int) (fun _ _ => rfl)))
        (pss_cons (ps_setDc (i := 9) (own := [("car", 11)]) (g := gName 11) (tt := tYes) (tk := tVar 11) (tv := tOp (rI0 fun i j => .int (i + j)) (tDGet (tOp (rIxL K) (tVar 3) (tUn (rU fun i => .int (-i)) (tC (.int 1)))) (tVar 11)) (tOp (rI CMul fun i j => .int (i * j)) (tDGet (tVar 2) (tVar 11)) (tVar 7))) (by rfl) nd rfl rfl (sw_trueD rfl rfl rfl (by decide +kernel)) (pi_list (pv 8)) (blkOk_by (N := nDriveAll) (sc := defScope sDriveAll) (by decide +kernel))
            (fun _ _ _ _ _ => pg_name (i := 11) nd rfl (Or.inl rfl)) (fun _ _ _ _ _ => pts_nil) (fun _ _ _ _ _ => pv 11)
            (fun _ _ _ _ _ => pe_op op_add (pe_dget hu (pe_ix (r := rIxL K) ix_list (pv 3) (pe_un un_neg pe_int) (fun _ _ => rfl)) (pv 11) (fun _ _ => rfl)) (pe_op op_mul (pe_dget hu (pv 2) (pv 11) (fun _ _ => rfl)) (pv 7))))
        (pss_cons (ps_set (i := 10) nd rfl (.inl rfl) pe_dnewK)
        (pss_cons (ps_if (pt_cmpR op_eq (pv 6) pe_str (nomark _))
            (pss_one (ps_set (i := 8) nd rfl (.inl rfl) (pe_call GO hr (by rfl) BO.at_ BO.fn.kp BO.bd .nil pass0 (pa_cons (pv 8) (pa_cons (pv 9) pa_nil)))))
            (pss_one (ps_asg (pe_call GF (hr.mono (by decide)) (by rfl) BF.at_ BF.fn.kp BF.bd .nil pass0 (pa_cons (pv 8) (pa_cons (pv 9) pa_nil))) (pg_tup rfl (pgs_cons (pg_name (i := 9) nd rfl (.inl rfl)) (pgs_cons (pg_name (i := 10) nd rfl (.inl rfl)) pgs_nil))))))
        (pss_cons (ps_expr (pe_bm PySem.F.plainAttrs_list PySem.F.slot_list_append PySem.F.type_list_append mt_append (pv 3) (pa_cons (pv 9) pa_nil)))
        (pss_cons (ps_expr (pe_bm PySem.F.plainAttrs_list PySem.F.slot_list_append PySem.F.type_list_append mt_append (pv 4) (pa_cons (pv 8) pa_nil)))
        (pss_one (ps_expr (pe_bm PySem.F.plainAttrs_list PySem.F.slot_list_append PySem.F.type_list_append mt_append (pv 5) (pa_cons (pv 10) pa_nil)))))))))))
      (pss_one (ps_ret (pe_tup (pa_cons (pv 3) (pa_cons (pv 4) (pa_cons (pv 5) pa_nil))))))))), ?_⟩
    have ndn : (names cars).Nodup := CO.nd
    refine ⟨_, rfl, by show 1 ≤ sizeLine; decide, fun lt hlt => ?_⟩
    have s1 : Same H (upd H lt (.lst [.ref sd])) := fun b o e => by rw [upd_ne (ne_of_none e hlt)]; exact e
    have hlt1 : (upd H lt (.lst [.ref sd])) lt = some (.lst [.ref sd]) := upd_same
    show tSeq _ _ _ _ (upd H lt (.lst [.ref sd]))
    generalize upd H lt (.lst [.ref sd]) = H1 at s1 hlt1 ⊢
    refine ⟨_, rfl, sd, _, rfl, s1 _ _ hsd, fun l hl => ?_⟩
    rw [startK_keys]
    have s2 : Same H1 (upd H1 l (.lst ((names cars).map V.str))) := fun b o e => by rw [upd_ne (ne_of_none e hl)]; exact e
    have hl2 : (upd H1 l (.lst ((names cars).map V.str))) l = some (.lst ((names cars).map V.str)) := upd_same
    have T2 : Tabs T (upd H1 l (.lst ((names cars).map V.str))) := hT.ext (s1.trans s2)
    refine ⟨_, rfl, l, sd, names cars, _, startOf cars, rfl, SqL.of hl2, s2 _ _ (s1 _ _ hsd), fun n hn => startK_get ndn hn, T2, fun H3 Do e3 T3 n3 hDo => ?_⟩
    have hlt3 := ExtN.lst e3 (s2 _ _ hlt1)
    have x3 : ExtN H H3 := (ExtN.same (s1.trans s2)).trans e3
    have nDot : Do ≠ lt := fun z => n3 lt _ (s2 _ _ hlt1) (fun _ y => nomatch y) z.symm
    refine ⟨by show 1 ≤ sizeLine; decide, fun lo hlo => ?_⟩
    have nto : lt ≠ lo := ne_of_none hlt3 hlo
    have nDo : Do ≠ lo := ne_of_none hDo hlo
    have s4 : Same H3 (upd H3 lo (.lst [.ref Do])) := fun b o e => by rw [upd_ne (ne_of_none e hlo)]; exact e
    have hlo4 : (upd H3 lo (.lst [.ref Do])) lo = some (.lst [.ref Do]) := upd_same
    show tSeq _ _ _ _ (upd H3 lo (.lst [.ref Do]))
    generalize upd H3 lo (.lst [.ref Do]) = H4 at s4 hlo4 ⊢
    have x4 : ExtN H H4 := x3.trans (ExtN.same s4)
    refine ⟨Nat.zero_le _, fun ll hll => ?_⟩
    have s5 : Same H4 (upd H4 ll (.lst [])) := fun b o e => by rw [upd_ne (ne_of_none e hll)]; exact e
    have hll5 : (upd H4 ll (.lst [])) ll = some (.lst []) := upd_same
    have hlt4 := s4 _ _ hlt3
    have ntl : lt ≠ ll := ne_of_none hlt4 hll
    have nol : lo ≠ ll := ne_of_none hlo4 hll
    have nDol : Do ≠ ll := ne_of_none (s4 _ _ hDo) hll
    show tSeq _ _ _ _ (upd H4 ll (.lst []))
    generalize upd H4 ll (.lst []) = H5 at s5 hll5 ⊢
    have x5 : ExtN H H5 := x4.trans (ExtN.same s5)
    have D0 : DL H H5 secs cars 0 ⟨sc, sc, pd, lt, lo, ll, [sd], [Do], []⟩ := by
      refine { ext := x5, lt := s5 _ _ hlt4, ltl := rfl, lo := s5 _ _ hlo4, lol := rfl, ll := hll5, lll := rfl, tk := ?_, od := ?_, ld := ?_, newt := New.of hlt, newo := New.ext x3 (New.of hlo), newl := New.ext x4 (New.of hll), nto := nto, ntl := ntl, nol := nol, odn := ?_ }
      · intro k d h
        have : k = 0 ∧ sd = d := by
          cases k with
          | zero => exact ⟨rfl, by simpa using h⟩
          | succ k => simp at h
        obtain ⟨rfl, rfl⟩ := this
        exact ⟨_, ExtN.dK x5 hsd, fun n hn => startK_get ndn hn⟩
      · intro k d h
        have : k = 0 ∧ Do = d := by
          cases k with
          | zero => exact ⟨rfl, by simpa using h⟩
          | succ k => simp at h
        obtain ⟨rfl, rfl⟩ := this
        exact s5 _ _ (s4 _ _ hDo)
      · intro k d h
        simp at h
      · intro d hd
        rw [List.mem_singleton.mp hd]
        exact ⟨nDot, nDo, nDol⟩
    have T5 : Tabs T H5 := T3.ext (s4.trans s5)
    obtain ⟨us, u1, u2, u3⟩ := hS
    have hus : (us.map V.ref).length = secs.length := by rw [List.length_map, u2]
    refine ⟨_, rfl, sc, rfl, ⟨_, SqT.of (ExtN.tup x5 u1)⟩, for_it walk_tup
      (fun i σ H6 => ∃ v6 v7 v8 v9 v10 W, σ = [some (.ref sc), some (.ref sd), some (.ref pd), some (.ref W.lt), some (.ref W.lo), some (.ref W.ll), v6, v7, v8, v9, v10, none] ∧ DL H H6 secs cars i W ∧ Tabs T H6)
      ⟨none, none, none, none, none, _, rfl, D0, T5⟩ (fun i σ H6 _ ⟨_, _, _, _, _, _, _, D6, _⟩ => SqT.of (ExtN.tup D6.ext u1)) ?_ ?_⟩
    · clear D0 T5 x5 x4 x3 s5 s4 hll5 hlo4 hlt4 hlt3 s1 s2 hlt1 hl2 T2 T3 n3 hDo e3
      rintro i y σ H6z H6 hi ⟨v6, v7, v8, v9, v10, W, rfl, D, hT6⟩ ⟨e, hy⟩
      subst e
      obtain ⟨t, ht, rfl⟩ : ∃ t, us[i]? = some t ∧ y = V.ref t := by
        rw [List.getElem?_map] at hy
        obtain ⟨t, z1, z2⟩ := Option.map_eq_some_iff.mp hy
        exact ⟨t, z1, z2.symm⟩
      have hml : i < secs.length := by rw [hus] at hi; exact hi
      have hs : secs[i]? = some secs[i] := List.getElem?_eq_getElem hml
      have hct := ExtN.tup D.ext (u3 i t _ ht hs)
      have c0 := SO.len _ (List.getElem_mem hml)
      have hfew := SO.few
      refine ⟨t, _, rfl, SqT.of hct, rfl, _, _, rfl, _, _, rfl, rfl, ?_⟩
      generalize secs[i] = sn at hs hct c0 ⊢
      have h99 := c0.2
      have hpd6 := ExtN.dK D.ext hpd
      obtain ⟨td, htd⟩ : ∃ td, W.tds[i]? = some td := ⟨_, List.getElem?_eq_getElem (by rw [D.ltl]; omega)⟩
      obtain ⟨od, hod⟩ : ∃ od, W.ods[i]? = some od := ⟨_, List.getElem?_eq_getElem (by rw [D.lol]; omega)⟩
      obtain ⟨kt, ht1, ht2⟩ := D.tk i td htd
      have ho1 := D.od i od hod
      have hperm := plcC_perm secs cars i
      have eN : plcC secs cars (i + 1) = stepP (paceOf cars) (plcC secs cars i) sn := plc_succ (paceOf cars) (pl0 cars) secs hs
      have eL : ∀ n, ldrC secs cars i n = leadP (paceOf cars) (plcC secs cars i) sn n := fun n => by
        show ldr (paceOf cars) (pl0 cars) secs i n = _
        unfold ldr
        rw [hs]
      generalize hpl : plcC secs cars i = pl at *
      have hmem : ∀ n ∈ pl.ord, n ∈ names cars := fun n h => hperm.mem_iff.mp h
      have hlen10 : pl.ord.length ≤ 10 := by
        rw [hperm.length_eq]
        unfold names
        rw [List.length_map]
        exact CO.few
      have hndo : pl.ord.Nodup := hperm.nodup_iff.mpr ndn
      have pcb : ∀ n ∈ names cars, 1 ≤ paceOf cars n ∧ paceOf cars n ≤ 60 := fun n h => by
        obtain ⟨c, hc, rfl⟩ := List.mem_map.mp h
        rw [paceOf_car ndn hc]
        exact ⟨(CO.all c hc).p0, (CO.all c hc).p1⟩
      refine ⟨_, rfl, _, rfl, W.lo, _, _, .ref od, rfl, rfl, SqL.of D.lo, atI_lst (by rw [List.length_map, D.lol]) (by rw [List.getElem?_map, hod]; rfl), ?_⟩
      refine ⟨_, rfl, od, rfl, ⟨_, SqL.of ho1⟩, fun Dd hDd => ?_⟩
      refine dc_it walk_list (fun i H1 => Same H6 H1 ∧ ∃ kvs : List (Key × V), H1 Dd = some (.dK kvs) ∧ kvs.length ≤ i ∧ ∀ n ∈ pl.ord.take i, valV kvs (Sum.inr n : Key) = some (.int (freeP (paceOf cars) pl sn.2 n)))
        ⟨fun b o e => by rw [upd_ne (ne_of_none e hDd)]; exact e, [], upd_same, Nat.le_refl _, fun n hn => by simp at hn⟩ (fun i H1 _ ⟨k1, _⟩ => SqL.of (k1 _ _ ho1)) ?_ ?_
      · rintro j y H1 H2 hj ⟨k1, kvs, hD1, lk, hk⟩ ⟨e, hy⟩
        subst e
        obtain ⟨n, hn, rfl⟩ : ∃ n, pl.ord[j]? = some n ∧ y = V.str n := by
          rw [List.getElem?_map] at hy
          obtain ⟨t, z1, z2⟩ := Option.map_eq_some_iff.mp hy
          exact ⟨t, z1, z2.symm⟩
        have hnm := hmem n (List.mem_of_getElem? hn)
        have pb := pcb n hnm
        have hio : j < pl.ord.length := (List.getElem?_eq_some_iff.mp hn).1
        refine ⟨rfl, yes_of ?_⟩
        refine ⟨_, rfl, _, rfl, _, rfl, W.lt, _, _, .ref td, rfl, rfl, SqL.of (k1 _ _ D.lt), atI_lst (by rw [List.length_map, D.ltl]) (by rw [List.getElem?_map, htd]; rfl), _, rfl, td, _, rfl, gk (k1 _ _ ht1) (ht2 n hnm), _, rfl, _, rfl, pd, _, rfl, gk (k1 _ _ hpd6) (paceK_get ndn hnm), _, rfl, _, _, rfl, rfl, .inl ⟨by omega, by omega⟩, _, _, rfl, rfl, ?_⟩
        refine ⟨kvs, Sum.inr n, rfl, hD1, small1000 (by omega), fun b o e => by rw [upd_ne (ne_of_none e hDd)]; exact k1 _ _ e, _, upd_same, Nat.le_trans (length_putK _ _ _) (by omega), fun a ha => ?_⟩
        rw [tk1 hn] at ha
        rw [valV_putS]
        by_cases ean : a = n
        · rw [if_pos ean, ean]
          rfl
        · rw [if_neg ean]
          rcases List.mem_append.mp ha with ha | ha
          · exact hk a ha
          · exact absurd (List.mem_singleton.mp ha) ean
      · rintro H1 ⟨k1, kvs, hD1, lk, hk⟩
        have e9 : pl.ord.take (pl.ord.map V.str).length = pl.ord := by rw [List.length_map, List.take_length]
        rw [e9] at hk
        intro G hG
        have sG : Same H6 (upd H1 G (.dK [])) := fun b o e => by rw [upd_ne (ne_of_none (k1 _ _ e) hG)]; exact k1 _ _ e
        have nDG : Dd ≠ G := ne_of_none hD1 hG
        have hD2 : (upd H1 G (.dK [])) Dd = some (.dK kvs) := by rw [upd_ne nDG]; exact hD1
        have TG : Tabs T (upd H1 G (.dK [])) := hT6.ext sG
        refine ⟨_, rfl, rfl, _, rfl, ?_⟩
        have ek : decide (V.str (kindS sn.1) = V.str "wide") = sn.1 := by cases sn.1 <;> decide +kernel
        rw [ek]
        cases hw : sn.1 with
        | true =>
          refine iteT ?_
          refine ⟨_, rfl, _, rfl, od, Dd, pl.ord, kvs, freeP (paceOf cars) pl sn.2, rfl, SqL.of (sG _ _ ho1), hD2, hk, TG, fun H5 Dn e5 T5 n5 hDn => ?_⟩
          have D5 := (D.step (ExtN.same sG)).step e5
          have estep : plcC secs cars (i + 1) = ⟨sortBy (freeP (paceOf cars) pl sn.2) pl.ord, freeP (paceOf cars) pl sn.2⟩ := by
            rw [eN]
            unfold stepP
            rw [hw]
            rfl
          have hD5 := ExtN.dK e5 hD2
          have hG5 : H5 G = some (.dK []) := ExtN.dK e5 upd_same
          have onL : ∀ b xs, H6 b = some (.lst xs) → b ≠ Dn := fun b xs e => n5 b _ (sG _ _ e) (fun _ z => nomatch z)
          have z1 : (W.tds.map V.ref).length < sizeLine := by rw [List.length_map, D.ltl]; exact small1000 (by omega)
          have z2 : (W.ods.map V.ref).length < sizeLine := by rw [List.length_map, D.lol]; exact small1000 (by omega)
          have z3 : (W.lds.map V.ref).length < sizeLine := by rw [List.length_map, D.lll]; exact small1000 (by omega)
          have l2 : ∀ o, (upd H5 W.lt (.lst o)) W.lo = some (.lst (W.ods.map V.ref)) := fun o => by rw [upd_ne D5.nto.symm]; exact D5.lo
          have l3 : ∀ o o2, (upd (upd H5 W.lt (.lst o)) W.lo (.lst o2)) W.ll = some (.lst (W.lds.map V.ref)) := fun o o2 => by rw [upd_ne D5.nol.symm, upd_ne D5.ntl.symm]; exact D5.ll
          refine ⟨_, rfl, .inl ⟨rfl, _, SqL.of D5.lt⟩, _, rfl, W.lt, _, _, rfl, rfl, D5.lt, z1, ?_⟩
          refine ⟨_, rfl, .inl ⟨rfl, _, SqL.of (l2 _)⟩, _, rfl, W.lo, _, _, rfl, rfl, l2 _, z2, ?_⟩
          refine ⟨_, rfl, .inl ⟨rfl, _, SqL.of (l3 _ _)⟩, _, rfl, W.ll, _, _, rfl, rfl, l3 _ _, z3, ?_⟩
          refine ⟨_, _, _, _, _, W.more Dd Dn G, rfl, D5.push (td := Dd) (od := Dn) (ld := G) hD5 (fun n hn => ?_) (by rw [estep]; exact hDn) ⟨(onL _ _ D.lt).symm, (onL _ _ D.lo).symm, (onL _ _ D.ll).symm⟩ hG5 (fun n => ?_), Tabs.keepL T5 (upd3_keep D5.lt D5.lo D5.ll)⟩
          · rw [estep]
            exact hk n (hperm.mem_iff.mpr hn)
          · rw [eL n]
            unfold leadP
            rw [hw]
            rfl
        | false =>
          refine iteF ?_
          refine ⟨_, rfl, _, rfl, od, Dd, pl.ord, kvs, freeP (paceOf cars) pl sn.2, rfl, SqL.of (sG _ _ ho1), hD2, hk, hndo, by omega, fun H5 t L G2 kL kG s5 nL nG nLG ht hL hG2 tL tG => ?_⟩
          have D5 := D.step (ExtN.same (sG.trans s5))
          have estep : plcC secs cars (i + 1) = ⟨pl.ord, tickOf (foll (freeP (paceOf cars) pl sn.2) pl.ord)⟩ := by
            rw [eN]
            unfold stepP
            rw [hw]
            rfl
          have ho5 := s5 _ _ (sG _ _ ho1)
          have q := D.odn od (List.mem_of_getElem? hod)
          refine ⟨t, _, rfl, SqT.of ht, rfl, _, _, rfl, _, _, rfl, rfl, ?_⟩
          have z1 : (W.tds.map V.ref).length < sizeLine := by rw [List.length_map, D.ltl]; exact small1000 (by omega)
          have z2 : (W.ods.map V.ref).length < sizeLine := by rw [List.length_map, D.lol]; exact small1000 (by omega)
          have z3 : (W.lds.map V.ref).length < sizeLine := by rw [List.length_map, D.lll]; exact small1000 (by omega)
          have l2 : ∀ o, (upd H5 W.lt (.lst o)) W.lo = some (.lst (W.ods.map V.ref)) := fun o => by rw [upd_ne D5.nto.symm]; exact D5.lo
          have l3 : ∀ o o2, (upd (upd H5 W.lt (.lst o)) W.lo (.lst o2)) W.ll = some (.lst (W.lds.map V.ref)) := fun o o2 => by rw [upd_ne D5.nol.symm, upd_ne D5.ntl.symm]; exact D5.ll
          refine ⟨_, rfl, .inl ⟨rfl, _, SqL.of D5.lt⟩, _, rfl, W.lt, _, _, rfl, rfl, D5.lt, z1, ?_⟩
          refine ⟨_, rfl, .inl ⟨rfl, _, SqL.of (l2 _)⟩, _, rfl, W.lo, _, _, rfl, rfl, l2 _, z2, ?_⟩
          refine ⟨_, rfl, .inl ⟨rfl, _, SqL.of (l3 _ _)⟩, _, rfl, W.ll, _, _, rfl, rfl, l3 _ _, z3, ?_⟩
          have T5 : Tabs T H5 := TG.ext s5
          refine ⟨_, _, _, _, _, W.more L od G2, rfl, D5.push (td := L) (od := od) (ld := G2) hL (fun n hn => ?_) (by rw [estep]; exact ho5) q hG2 (fun n => ?_), Tabs.keepL T5 (upd3_keep D5.lt D5.lo D5.ll)⟩
          · rw [estep, tL n]
            obtain ⟨x, hx⟩ := look_some (acc := foll (freeP (paceOf cars) pl sn.2) pl.ord) (n := n) (by rw [foll_names]; exact hperm.mem_iff.mpr hn)
            show _ = some (V.int (tickOf (foll (freeP (paceOf cars) pl sn.2) pl.ord) n))
            unfold tickOf
            rw [hx]
            rfl
          · rw [tG n, lead_map, eL n]
            unfold leadP
            rw [hw]
            rfl
    · rintro σ H6 ⟨v6, v7, v8, v9, v10, W, rfl, D, hT6⟩
      rw [hus] at D
      refine ⟨_, rfl, _, rfl, _, rfl, by show 3 ≤ sizeLine; decide, fun t ht => ?_⟩
      have s7 : Same H6 (upd H6 t (.tup [.ref W.lt, .ref W.lo, .ref W.ll])) := fun b o e => by rw [upd_ne (ne_of_none e ht)]; exact e
      exact k _ t W (D.step (ExtN.same s7)) upd_same (New.ext D.ext (New.of ht)) (hT6.ext s7)
end
end Sl

set_option Elab.async false
set_option linter.all false
set_option maxRecDepth 100000
set_option maxHeartbeats 1000000
namespace Sl
open PySem PySem.Spec L2 OwnR LamX
theorem Tabs.keepP {T : List (Addr × Str)} {H H' : Hp} {p C d : Addr} {fs : List (Str × V)} (t : Tabs T H) (hp : H p = some (.ins C d fs)) (e : ∀ b o, H b = some o → b ≠ p → H' b = some o) : Tabs T H' := fun q hq => by
  obtain ⟨ps, h1, h2, h3⟩ := t q hq
  refine ⟨ps, e _ _ h1 (ne_of h1 hp (by intro z; cases z)), h2, fun pos cv hc => ?_⟩
  obtain ⟨c, e1, e2⟩ := h3 pos cv hc
  exact ⟨c, e1, e _ _ e2 (ne_of e2 hp (by intro z; unfold CodeO at z; cases z))⟩
theorem valV_names_none {g : Car → V} {cars : List Car} {n : Str} (h : n ∉ names cars) : valV (cars.map fun c => ((Sum.inr c.name : Key), g c)) (Sum.inr n : Key) = none := by
  induction cars with
  | nil => rfl
  | cons a l ih =>
    unfold names at h
    rw [List.map_cons, List.mem_cons] at h
    have hne : ¬ (Sum.inr a.name : Key) = Sum.inr n := fun z => h (.inl (Sum.inr.inj z).symm)
    rw [List.map_cons, valV_neg hne]
    exact ih fun z => h (.inr z)
theorem take_new {cars : List Car} (nd : (names cars).Nodup) {i : Nat} {c : Car} (h : cars[i]? = some c) : c.name ∉ names (cars.take i) := by
  intro hm
  obtain ⟨j, hj⟩ := List.mem_iff_getElem?.mp hm
  unfold names at hj nd
  rw [List.getElem?_map] at hj
  obtain ⟨c', hc', en⟩ := Option.map_eq_some_iff.mp hj
  have hj2 : j < i := by
    have := (List.getElem?_eq_some_iff.mp hc').1
    rw [List.length_take] at this
    omega
  rw [List.getElem?_take_of_lt hj2] at hc'
  have a1 : (cars.map (·.name))[j]? = some c.name := by rw [List.getElem?_map, hc']; exact congrArg some en
  have a2 : (cars.map (·.name))[i]? = some c.name := by rw [List.getElem?_map, h]; rfl
  have := nd_ix nd a1 a2
  omega
theorem put_car {g : Car → V} {cars : List Car} (nd : (names cars).Nodup) {i : Nat} {c : Car} (h : cars[i]? = some c) :
    putK ((cars.take i).map fun c => ((Sum.inr c.name : Key), g c)) (Sum.inr c.name : Key) (g c) = (cars.take (i + 1)).map fun c => ((Sum.inr c.name : Key), g c) := by
  rw [putK_new _ (valV_names_none (take_new nd h)), tk1 h, List.map_append]
  rfl
section
variable {P : Program} {w : World} {K : PySem.W.Frag} {mg : Str → Option Value} {base : Heap}
def spDInit (CR C : Addr) (T : List (Addr × Str)) : Sp := fun vs H Q _ => ∃ (H0 : Hp) (p dx r a : Addr) (secs : List Sec) (cars : List Car), vs = [.ref p, .ref r, .ref a] ∧ H p = some (.ins C dx []) ∧ Same H0 H ∧ H0 p = none ∧ RoadAt CR H0 r secs ∧ CarsAt H0 a cars ∧ SecsOk secs ∧ CarsOk cars ∧ Tabs T H0 ∧
  ∀ H' W, DP C H0 H' p secs cars secs.length W → Tabs T H' → Q .non H'
def nDInit : List Str := ["self", "road", "cars", "starts", "name", "start", "pace"]
theorem scDInit : FnScope nDInit ["self", "road", "cars"] (defScope sDInit) := ⟨rfl, rfl, rfl, by decide +kernel, rfl, by decide +kernel, by decide +kernel⟩
theorem ok_dInit {f fK fA fP CR C lp kp pp : Addr} {fd dK dA dP : FuncData} {T : List (Addr × Str)} (F : Fm K C "__init__" "Drive.__init__" sDInit ["self", "road", "cars"] f fd) (M : Mg mg) (R : DriveT K mg C) (RR : RoadT K w mg CR lp kp)
    (BK : Fb K mg "check_cars" sCheckCars ["cars"] fK dK) (BA : Fb K mg "drive_all" sDriveAll ["sections", "starts", "paces"] fA dA)
    (PO : PropOf K CR "sections" pp fP) (bP : Binds K dP ["self"] [])
    (GK : FnOk P w K mg base CX0 3 fK dK ["cars"] spCheckCars) (GA : FnOk P w K mg base CX0 4 fA dA ["sections", "starts", "paces"] (spDriveAll K T))
    (GP : FnOk P w K mg base CX0 1 fP dP ["self"] (getSp CR "_sections")) :
    FnOk P w K mg base CX0 5 f fd ["self", "road", "cars"] (spDInit CR C T) := by
  refine F.fn.ok scDInit (fun vs H Q E h => ?_) (fun cdv A outer s H vs Q E hr h => ?_)
  · obtain ⟨H0, p, dx, r, a, secs, cars, rfl, _⟩ := h
    rfl
  · obtain ⟨H0, p, dx, r, a, secs, cars, rfl, hp, s0, p0, hR, hC, SO, CO, hT, k⟩ := h
    have nd := scDInit.nd
    have hu := hu_of hr
    have hr2 : Room 2 (A.deeper (PyProof.Rows.envOfC "Drive.__init__" (defScope sDInit) s.heap.objs.size f cdv)) := hr.mono (by decide)
    have hr3 : Room 3 (A.deeper (PyProof.Rows.envOfC "Drive.__init__" (defScope sDInit) s.heap.objs.size f cdv)) := hr.mono (by decide)
    refine ⟨_, pss_cons (ps_expr (pe_call GK hr3 (by rfl) BK.at_ BK.fn.kp BK.bd .nil pass0 (pa_cons (pv 2) pa_nil)))
      (pss_cons (ps_fld (pv 0) (pe_prop (pv 1) RR.cl PO GP hr2 bP .nil pass0 rfl) rfl)
      (pss_cons (ps_fld (pv 0) (pe_dc (own := [("name", 4), ("start", 5), ("pace", 6)]) (g := gTup K 3 (gCons (gName 4) (gCons (gName 5) (gCons (gName 6) gNil)))) (tt := tYes) (by rfl) nd (pi_tup (pv 2)) (blkOk_by (N := nDInit) (sc := defScope sDInit) (by decide +kernel))
          (fun _ _ _ _ _ => pg_tup rfl (pgs_cons (pg_name (i := 4) nd rfl (Or.inl rfl)) (pgs_cons (pg_name (i := 5) nd rfl (Or.inl rfl)) (pgs_cons (pg_name (i := 6) nd rfl (Or.inl rfl)) pgs_nil)))) (fun _ _ _ _ _ => pts_nil) (fun _ _ _ _ _ => pv 4) (fun _ _ _ _ _ => pv 6)) rfl)
      (pss_cons (ps_setDc (i := 3) (own := [("name", 4), ("start", 5), ("pace", 6)]) (g := gTup K 3 (gCons (gName 4) (gCons (gName 5) (gCons (gName 6) gNil)))) (tt := tYes) (tk := tVar 4) (tv := tVar 5) (by rfl) nd rfl rfl (sw_trueD rfl rfl rfl (by decide +kernel)) (pi_tup (pv 2)) (blkOk_by (N := nDInit) (sc := defScope sDInit) (by decide +kernel))
          (fun _ _ _ _ _ => pg_tup rfl (pgs_cons (pg_name (i := 4) nd rfl (Or.inl rfl)) (pgs_cons (pg_name (i := 5) nd rfl (Or.inl rfl)) (pgs_cons (pg_name (i := 6) nd rfl (Or.inl rfl)) pgs_nil)))) (fun _ _ _ _ _ => pts_nil) (fun _ _ _ _ _ => pv 4) (fun _ _ _ _ _ => pv 5))
      (pss_one (ps_asg (pe_call GA hr (by rfl) BA.at_ BA.fn.kp BA.bd .nil pass0 (pa_cons (pe_prop (pv 1) RR.cl PO GP hr2 bP .nil pass0 rfl) (pa_cons (pv 3) (pa_cons (pe_fld (pv 0) rfl) pa_nil)))) (pg_tup rfl (pgs_cons (pg_fld (pv 0)) (pgs_cons (pg_fld (pv 0)) (pgs_cons (pg_fld (pv 0)) pgs_nil))))))))), ?_⟩
    have ndn : (names cars).Nodup := CO.nd
    obtain ⟨ts, ha, hlen, hcar⟩ := hC
    obtain ⟨dr, tr, ur, hr1, hsc, _⟩ := hR
    refine ⟨_, rfl, a, cars, rfl, ⟨ts, s0 _ _ ha, hlen, fun i t c e1 e2 => s0 _ _ (hcar i t c e1 e2)⟩, CO, fun H1 s1 => ?_⟩
    have s01 : Same H0 H1 := s0.trans s1
    have hp1 := s1 _ _ hp
    refine ⟨_, rfl, r, dr, _, rfl, s01 _ _ hr1, r, dr, _, _, rfl, s01 _ _ hr1, rf_sections _ _, _, rfl, p, C, dx, _, rfl, hp1, R.cl, R.nS, (by show 0 < 1000; decide), ?_⟩
    have old2 : ∀ b o, H0 b = some o → upd H1 p (.ins C dx (df1 tr)) b = some o := fun b o e => by rw [upd_ne (ne_of_none e p0)]; exact s01 _ _ e
    have hp2 : upd H1 p (.ins C dx (df1 tr)) p = some (.ins C dx (df1 tr)) := upd_same
    show tSeq _ _ _ _ (upd H1 p (.ins C dx (df1 tr)))
    generalize upd H1 p (.ins C dx (df1 tr)) = H2 at old2 hp2 ⊢
    have htz : (ts.map V.ref).length = cars.length := by rw [List.length_map, hlen]
    have e9 : cars.take (ts.map V.ref).length = cars := by rw [htz, List.take_length]
    refine ⟨_, rfl, a, rfl, ⟨_, SqT.of (old2 _ _ ha)⟩, fun D hD => ?_⟩
    refine dc_it walk_tup (fun i H3 => Same H2 H3 ∧ H3 D = some (.dK ((cars.take i).map fun c => ((Sum.inr c.name : Key), V.int c.pace))))
      ⟨fun b o e => by rw [upd_ne (ne_of_none e hD)]; exact e, upd_same⟩ (fun i H3 _ ⟨k1, _⟩ => SqT.of (k1 _ _ (old2 _ _ ha))) ?_ ?_
    · rintro i y H3 H4 hi ⟨k1, hD1⟩ ⟨e, hy⟩
      subst e
      obtain ⟨t, ht, rfl⟩ : ∃ t, ts[i]? = some t ∧ y = V.ref t := by
        rw [List.getElem?_map] at hy
        obtain ⟨t, z1, z2⟩ := Option.map_eq_some_iff.mp hy
        exact ⟨t, z1, z2.symm⟩
      have hic : i < cars.length := by rw [htz] at hi; exact hi
      have hc : cars[i]? = some cars[i] := List.getElem?_eq_getElem hic
      have hct := k1 _ _ (old2 _ _ (hcar i t _ ht hc))
      refine ⟨t, _, rfl, SqT.of hct, rfl, _, _, rfl, _, _, rfl, _, _, rfl, rfl, rfl, yes_of ?_⟩
      refine ⟨_, rfl, _, rfl, _, Sum.inr cars[i].name, rfl, hD1, by rw [List.length_map, List.length_take]; have := CO.few; exact small1000 (by omega), fun b o e => by rw [upd_ne (ne_of_none e hD)]; exact k1 _ _ e, ?_⟩
      rw [upd_same, put_car (g := fun c => V.int c.pace) ndn hc]
    · rintro H3 ⟨k1, hD1⟩
      rw [e9] at hD1
      have hp3 := k1 _ _ hp2
      refine ⟨_, rfl, p, C, dx, _, rfl, hp3, R.cl, R.nP, (by show 1 < 1000; decide), ?_⟩
      have nDp : D ≠ p := ne_of hD1 hp3 (by intro z; cases z)
      have old4 : ∀ b o, H0 b = some o → upd H3 p (.ins C dx (df2 tr D)) b = some o := fun b o e => by rw [upd_ne (ne_of_none e p0)]; exact k1 _ _ (old2 _ _ e)
      have hp4 : upd H3 p (.ins C dx (df2 tr D)) p = some (.ins C dx (df2 tr D)) := upd_same
      have hD4 : upd H3 p (.ins C dx (df2 tr D)) D = some (.dK (paceK cars)) := by rw [upd_ne nDp]; exact hD1
      show tSeq _ _ _ _ (upd H3 p (.ins C dx (df2 tr D)))
      generalize upd H3 p (.ins C dx (df2 tr D)) = H4 at old4 hp4 hD4 ⊢
      refine ⟨_, rfl, a, rfl, ⟨_, SqT.of (old4 _ _ ha)⟩, fun D2 hD2 => ?_⟩
      refine dc_it walk_tup (fun i H3 => Same H4 H3 ∧ H3 D2 = some (.dK ((cars.take i).map fun c => ((Sum.inr c.name : Key), V.int c.start))))
        ⟨fun b o e => by rw [upd_ne (ne_of_none e hD2)]; exact e, upd_same⟩ (fun i H3 _ ⟨k1, _⟩ => SqT.of (k1 _ _ (old4 _ _ ha))) ?_ ?_
      · rintro i y H3 H5 hi ⟨k1, hD1⟩ ⟨e, hy⟩
        subst e
        obtain ⟨t, ht, rfl⟩ : ∃ t, ts[i]? = some t ∧ y = V.ref t := by
          rw [List.getElem?_map] at hy
          obtain ⟨t, z1, z2⟩ := Option.map_eq_some_iff.mp hy
          exact ⟨t, z1, z2.symm⟩
        have hic : i < cars.length := by rw [htz] at hi; exact hi
        have hc : cars[i]? = some cars[i] := List.getElem?_eq_getElem hic
        have hct := k1 _ _ (old4 _ _ (hcar i t _ ht hc))
        refine ⟨t, _, rfl, SqT.of hct, rfl, _, _, rfl, _, _, rfl, _, _, rfl, rfl, rfl, yes_of ?_⟩
        refine ⟨_, rfl, _, rfl, _, Sum.inr cars[i].name, rfl, hD1, by rw [List.length_map, List.length_take]; have := CO.few; exact small1000 (by omega), fun b o e => by rw [upd_ne (ne_of_none e hD2)]; exact k1 _ _ e, ?_⟩
        rw [upd_same, put_car (g := fun c => V.int c.start) ndn hc]
      · rintro H5 ⟨k5, hD5⟩
        rw [e9] at hD5
        have hp5 := k5 _ _ hp4
        have old5 : ∀ b o, H0 b = some o → H5 b = some o := fun b o e => k5 _ _ (old4 _ _ e)
        have T5 : Tabs T H5 := hT.ext old5
        have hD45 := k5 _ _ hD4
        have hS5 : SecsAt H5 tr secs := by
          obtain ⟨us, u1, u2, u3⟩ := hsc
          exact ⟨us, old5 _ _ u1, u2, fun i t s e1 e2 => old5 _ _ (u3 i t s e1 e2)⟩
        refine ⟨_, rfl, r, dr, _, rfl, old5 _ _ hr1, r, dr, _, _, rfl, old5 _ _ hr1, rf_sections _ _, _, rfl, _, rfl, p, C, dx, _, _, rfl, hp5, R.cl, R.nP, df2_paces _ _, ?_⟩
        refine ⟨tr, D2, D, secs, cars, rfl, hS5, hD5, hD45, SO, CO, T5, fun H6 t W L ht nt T6 => ?_⟩
        have hp6 := ExtN.ins L.ext hp5
        refine ⟨t, _, rfl, SqT.of ht, rfl, ?_⟩
        have i3 : upd H6 p (.ins C dx (df3 tr D W.lt)) p = some (.ins C dx (df3 tr D W.lt)) := upd_same
        have i4 : ∀ o, upd (upd H6 p o) p (.ins C dx (df4 tr D W.lt W.lo)) p = some (.ins C dx (df4 tr D W.lt W.lo)) := fun o => upd_same
        refine ⟨_, _, rfl, ⟨_, rfl, p, C, dx, _, rfl, hp6, R.cl, R.nT, (by show (df2 tr D).length < 1000; exact Nat.lt_of_le_of_lt (putF_len _ _ _) (by show 1 + 1 < 1000; decide)), ?_⟩⟩
        refine ⟨_, _, rfl, ⟨_, rfl, p, C, dx, _, rfl, i3, R.cl, R.nO, Nat.lt_of_le_of_lt (Nat.le_trans (putF_len _ _ _) (Nat.succ_le_succ (putF_len _ _ _))) (by show 1 + 1 + 1 < 1000; decide), ?_⟩⟩
        refine ⟨_, _, rfl, ⟨_, rfl, p, C, dx, _, rfl, i4 _, R.cl, R.nL, Nat.lt_of_le_of_lt (Nat.le_trans (putF_len _ _ _) (Nat.succ_le_succ (Nat.le_trans (putF_len _ _ _) (Nat.succ_le_succ (putF_len _ _ _))))) (by show 1 + 1 + 1 + 1 < 1000; decide), rfl, ?_⟩⟩
        have hpE : upd (upd (upd H6 p (.ins C dx (df3 tr D W.lt))) p (.ins C dx (df4 tr D W.lt W.lo))) p (.ins C dx (df5 tr D W.lt W.lo W.ll)) p = some (.ins C dx (df5 tr D W.lt W.lo W.ll)) := upd_same
        have keep : ∀ b o, H6 b = some o → b ≠ p → upd (upd (upd H6 p (.ins C dx (df3 tr D W.lt))) p (.ins C dx (df4 tr D W.lt W.lo))) p (.ins C dx (df5 tr D W.lt W.lo W.ll)) b = some o := fun b o e n => by
          rw [upd_ne n, upd_ne n, upd_ne n]
          exact e
        show Ends.nx _ _ (upd (upd (upd H6 p (.ins C dx (df3 tr D W.lt))) p (.ins C dx (df4 tr D W.lt W.lo))) p (.ins C dx (df5 tr D W.lt W.lo W.ll)))
        generalize upd (upd (upd H6 p (.ins C dx (df3 tr D W.lt))) p (.ins C dx (df4 tr D W.lt W.lo))) p (.ins C dx (df5 tr D W.lt W.lo W.ll)) = H9 at hpE keep ⊢
        have T9 : Tabs T H9 := Tabs.keepP T6 hp6 keep
        have np : ∀ b o, H6 b = some o → (∀ C d fs, o ≠ .ins C d fs) → H9 b = some o := fun b o e n => keep b o e (ne_of e hp6 (n _ _ _))
        have x05 : ExtN H0 H5 := fun b o e _ => old5 _ _ e
        refine k H9 ⟨dx, tr, D, W.lt, W.lo, W.ll, W.tds, W.ods, W.lds⟩ ?_ T9
        exact { ext := fun b o e n => keep b o (L.ext b o (old5 _ _ e) n) (ne_of_none e p0)
                ins := hpE
                sec := by
                  obtain ⟨us, u1, u2, u3⟩ := hS5
                  exact ⟨us, np _ _ (ExtN.tup L.ext u1) (fun _ _ _ z => nomatch z), u2, fun i t s e1 e2 => np _ _ (ExtN.tup L.ext (u3 i t s e1 e2)) (fun _ _ _ z => nomatch z)⟩
                pac := np _ _ (ExtN.dK L.ext hD45) (fun _ _ _ z => nomatch z)
                lt := np _ _ L.lt (fun _ _ _ z => nomatch z)
                ltl := L.ltl
                lo := np _ _ L.lo (fun _ _ _ z => nomatch z)
                lol := L.lol
                ll := np _ _ L.ll (fun _ _ _ z => nomatch z)
                lll := L.lll
                tk := fun k d h => let ⟨kv, a, b⟩ := L.tk k d h; ⟨kv, np _ _ a (fun _ _ _ z => nomatch z), b⟩
                od := fun k d h => np _ _ (L.od k d h) (fun _ _ _ z => nomatch z)
                ld := fun k d h => let ⟨kv, a, b⟩ := L.ld k d h; ⟨kv, np _ _ a (fun _ _ _ z => nomatch z), b⟩
                newp := New.of p0
                newt := New.ext x05 L.newt
                newo := New.ext x05 L.newo
                newl := New.ext x05 L.newl
                nto := L.nto
                ntl := L.ntl
                nol := L.nol
                odn := L.odn }
end
end Sl

set_option Elab.async false
set_option linter.all false
set_option maxRecDepth 100000
set_option maxHeartbeats 1000000
namespace Sl
open PySem PySem.Spec L2 OwnR LamX
/-- a Drive, all of it driven -/
def DA (C : Addr) (H : Hp) (p : Addr) (secs : List Sec) (cars : List Car) : Prop := ∃ H0 W, DP C H0 H p secs cars secs.length W
theorem DA.ext {C : Addr} {H H' : Hp} {p : Addr} {secs : List Sec} {cars : List Car} (h : DA C H p secs cars) (e : ExtN H H') : DA C H' p secs cars := let ⟨H0, W, D⟩ := h; ⟨H0, W, D.step e⟩
theorem paceK_none {cars : List Car} {n : Str} (h : n ∉ names cars) : valV (paceK cars) (Sum.inr n : Key) = none := valV_names_none (g := fun c => V.int c.pace) h
theorem paceK_some (cars : List Car) (n : Str) : (valV (paceK cars) (Sum.inr n : Key)).isSome = decide (n ∈ names cars) := by
  by_cases h : n ∈ names cars
  · rw [decide_eq_true h]
    induction cars with
    | nil => cases h
    | cons a l ih =>
      by_cases e : a.name = n
      · have : valV (paceK (a :: l)) (Sum.inr n : Key) = some (V.int a.pace) := by rw [← e]; exact valV_pos rfl
        rw [this]
        rfl
      · have hne : ¬ (Sum.inr a.name : Key) = Sum.inr n := fun z => e (Sum.inr.inj z)
        have hm : n ∈ names l := by
          unfold names at h ⊢
          rw [List.map_cons, List.mem_cons] at h
          rcases h with h | h
          · exact absurd h.symm e
          · exact h
        have : valV (paceK (a :: l)) (Sum.inr n : Key) = valV (paceK l) (Sum.inr n : Key) := valV_neg hne
        rw [this]
        exact ih hm
  · rw [decide_eq_false h, paceK_none h]
    rfl
section
variable {P : Program} {w : World} {K : PySem.W.Frag} {mg : Str → Option Value} {base : Heap}
/-! ### name in drive -/
def spHas (C : Addr) : Sp := fun vs H Q _ => ∃ (p : Addr) (secs : List Sec) (cars : List Car) (n : Str), vs = [.ref p, .str n] ∧ DA C H p secs cars ∧ Q (.bl (decide (n ∈ names cars))) H
theorem scHas : FnScope ["self", "x"] ["self", "x"] (defScope sDHas) := ⟨rfl, rfl, rfl, by decide +kernel, rfl, by decide +kernel, by decide +kernel⟩
theorem ok_has {f C : Addr} {fd : FuncData} (F : Fun K "__contains__" "Drive.__contains__" sDHas f fd) (M : Mg mg) (R : DriveT K mg C) : FnOk P w K mg base CX0 1 f fd ["self", "x"] (spHas C) := by
  refine F.ok scHas (fun vs H Q E h => ?_) (fun cdv A outer s H vs Q E hr h => ?_)
  · obtain ⟨p, secs, cars, n, rfl, _⟩ := h
    rfl
  · obtain ⟨p, secs, cars, n, rfl, ⟨H0, W, D⟩, k⟩ := h
    have hu := hu_of hr
    refine ⟨_, pss_one (ps_ret (pe_and (pe_callB call_isi (by rfl) M.isinstance boot_isinstance (pa_cons (pv 1) (pa_cons (pe_bltn (v := .ty "str") (by rfl) M.str boot_tStr rfl) pa_nil))) (pe_one (pe_cmp (pc_din hu (pv 1) (pe_fld (pv 0) rfl)) (by rfl))))), ?_⟩
    refine ⟨_, rfl, _, _, _, _, true, rfl, .ty _, .base (.str n), kit_ty (by decide +kernel), true, rfl, iteT ?_⟩
    refine ⟨_, rfl, _, rfl, p, C, W.dx, _, _, rfl, D.ins, R.cl, R.nP, df5_paces _ _ _ _ _, W.pd, _, rfl, DGet.k (k := (Sum.inr n : Key)) D.pac, ?_⟩
    rw [paceK_some]
    exact k
/-! ### _check_car -/
def spCheckCar (C : Addr) : Sp := fun vs H Q _ => ∃ (p : Addr) (secs : List Sec) (cars : List Car) (n : Str), vs = [.ref p, .str n] ∧ DA C H p secs cars ∧ n ∈ names cars ∧ Q .non H
theorem scCheckCar : FnScope ["self", "name"] ["self", "name"] (defScope sDCheckCar) := ⟨rfl, rfl, rfl, by decide +kernel, rfl, by decide +kernel, by decide +kernel⟩
theorem ok_checkCar {f fH C : Addr} {fd dH : FuncData} (F : Fm K C "_check_car" "Drive._check_car" sDCheckCar ["self", "name"] f fd) (hs : PySem.W.findIn K (.ref C) "__contains__" = some (some (.ref fH))) (hf : PySem.W.isFn K (.ref fH) = true) (bH : Binds K dH ["self", "x"] [])
    (GH : FnOk P w K mg base CX0 1 fH dH ["self", "x"] (spHas C)) : FnOk P w K mg base CX0 2 f fd ["self", "name"] (spCheckCar C) := by
  refine F.fn.ok scCheckCar (fun vs H Q E h => ?_) (fun cdv A outer s H vs Q E hr h => ?_)
  · obtain ⟨p, secs, cars, n, rfl, _⟩ := h
    rfl
  · obtain ⟨p, secs, cars, n, rfl, ⟨H0, W, D⟩, hn, k⟩ := h
    refine ⟨_, pss_one (ps_if (pt_cmpR (op_notInO hs hf (GH.raw bH .nil) hr pass0) (pv 1) (pv 0) (by rfl)) (pss_one ps_never) pss_nil), ?_⟩
    refine ⟨_, rfl, _, rfl, p, W.dx, _, rfl, D.ins, p, secs, cars, n, rfl, ⟨H0, W, D⟩, _, rfl, false, ?_, iteF k⟩
    rw [decide_eq_true hn]
    rfl
/-! ### _check_place, _check_section -/
def spCheckPlace (C : Addr) : Sp := fun vs H Q _ => ∃ (p : Addr) (secs : List Sec) (cars : List Car) (k : Nat), vs = [.ref p, .int (k : Nat)] ∧ DA C H p secs cars ∧ k ≤ secs.length ∧ Q .non H
theorem scCheckPlace : FnScope ["self", "place"] ["self", "place"] (defScope sDCheckPlace) := ⟨rfl, rfl, rfl, by decide +kernel, rfl, by decide +kernel, by decide +kernel⟩
theorem ok_checkPlace {f fB C : Addr} {fd dB : FuncData} (F : Fm K C "_check_place" "Drive._check_place" sDCheckPlace ["self", "place"] f fd) (M : Mg mg) (R : DriveT K mg C) (BB : Fb K mg "is_number" sIsNumber ["value", "least", "most"] fB dB)
    (GB : FnOk P w K mg base CX0 1 fB dB ["value", "least", "most"] spIsNumber) : FnOk P w K mg base CX0 2 f fd ["self", "place"] (spCheckPlace C) := by
  refine F.fn.ok scCheckPlace (fun vs H Q E h => ?_) (fun cdv A outer s H vs Q E hr h => ?_)
  · obtain ⟨p, secs, cars, n, rfl, _⟩ := h
    rfl
  · obtain ⟨p, secs, cars, n, rfl, ⟨H0, W, D⟩, hn, k⟩ := h
    obtain ⟨us, u1, u2, u3⟩ := D.sec
    refine ⟨_, pss_one (ps_if (pt_not (pt_val (pe_call GB hr (by rfl) BB.at_ BB.fn.kp BB.bd .nil pass0 (pa_cons (pv 1) (pa_cons pe_int (pa_cons (pe_callB call_len_seq (by rfl) M.len boot_len (pa_cons (pe_fld (pv 0) rfl) pa_nil)) pa_nil)))))) (pss_one ps_never) pss_nil), ?_⟩
    refine ⟨_, rfl, _, rfl, p, C, W.dx, _, _, rfl, D.ins, R.cl, R.nS, df5_sections _ _ _ _ _, W.sc, _, rfl, .inr (SqT.of u1), (n : Nat), 0, _, rfl, true, ?_, iteF k⟩
    rw [List.length_map, u2, decide_eq_true (by omega : (0 : Int) ≤ (n : Nat)), decide_eq_true (by omega : ((n : Nat) : Int) ≤ (secs.length : Nat))]
    rfl
def spCheckSection (C : Addr) : Sp := fun vs H Q _ => ∃ (p : Addr) (secs : List Sec) (cars : List Car) (k : Nat), vs = [.ref p, .int (k : Nat)] ∧ DA C H p secs cars ∧ k < secs.length ∧ Q .non H
theorem scCheckSection : FnScope ["self", "section"] ["self", "section"] (defScope sDCheckSection) := ⟨rfl, rfl, rfl, by decide +kernel, rfl, by decide +kernel, by decide +kernel⟩
theorem ok_checkSection {f fB C : Addr} {fd dB : FuncData} (F : Fm K C "_check_section" "Drive._check_section" sDCheckSection ["self", "section"] f fd) (M : Mg mg) (R : DriveT K mg C) (BB : Fb K mg "is_number" sIsNumber ["value", "least", "most"] fB dB)
    (GB : FnOk P w K mg base CX0 1 fB dB ["value", "least", "most"] spIsNumber) : FnOk P w K mg base CX0 2 f fd ["self", "section"] (spCheckSection C) := by
  refine F.fn.ok scCheckSection (fun vs H Q E h => ?_) (fun cdv A outer s H vs Q E hr h => ?_)
  · obtain ⟨p, secs, cars, n, rfl, _⟩ := h
    rfl
  · obtain ⟨p, secs, cars, n, rfl, ⟨H0, W, D⟩, hn, k⟩ := h
    obtain ⟨us, u1, u2, u3⟩ := D.sec
    refine ⟨_, pss_one (ps_if (pt_not (pt_val (pe_call GB hr (by rfl) BB.at_ BB.fn.kp BB.bd .nil pass0 (pa_cons (pv 1) (pa_cons pe_int (pa_cons (pe_op op_sub (pe_callB call_len_seq (by rfl) M.len boot_len (pa_cons (pe_fld (pv 0) rfl) pa_nil)) pe_int) pa_nil)))))) (pss_one ps_never) pss_nil), ?_⟩
    refine ⟨_, rfl, _, rfl, p, C, W.dx, _, _, rfl, D.ins, R.cl, R.nS, df5_sections _ _ _ _ _, W.sc, _, rfl, .inr (SqT.of u1), _, _, rfl, rfl, (n : Nat), 0, _, rfl, true, ?_, iteF k⟩
    rw [List.length_map, u2, decide_eq_true (by omega : (0 : Int) ≤ (n : Nat)), decide_eq_true (by omega : ((n : Nat) : Int) ≤ ((secs.length : Nat) : Int) - 1)]
    rfl
/-! ### drive[name] -/
def tksL (secs : List Sec) (cars : List Car) (n : Str) : List Int := (List.range (secs.length + 1)).map fun k => (plcC secs cars k).tk n
def spGet (C : Addr) : Sp := fun vs H Q _ => ∃ (p : Addr) (secs : List Sec) (cars : List Car) (n : Str), vs = [.ref p, .str n] ∧ DA C H p secs cars ∧ n ∈ names cars ∧ secs.length ≤ 12 ∧ ∀ H' t, Same H H' → H' t = some (.tup ((tksL secs cars n).map V.int)) → Q (.ref t) H'
def nDGet : List Str := ["self", "at", "ticks"]
theorem scGet : FnScope nDGet ["self", "at"] (defScope sDGet) := ⟨rfl, rfl, rfl, by decide +kernel, rfl, by decide +kernel, by decide +kernel⟩
theorem ok_get {f fC C : Addr} {fd dC : FuncData} (F : Fun K "__getitem__" "Drive.__getitem__" sDGet f fd) (M : Mg mg) (R : DriveT K mg C) (BC : Fm K C "_check_car" "Drive._check_car" sDCheckCar ["self", "name"] fC dC)
    (GC : FnOk P w K mg base CX0 2 fC dC ["self", "name"] (spCheckCar C)) : FnOk P w K mg base CX0 3 f fd ["self", "at"] (spGet C) := by
  refine F.ok scGet (fun vs H Q E h => ?_) (fun cdv A outer s H vs Q E hr h => ?_)
  · obtain ⟨p, secs, cars, n, rfl, _⟩ := h
    rfl
  · obtain ⟨p, secs, cars, n, rfl, ⟨H0, W, D⟩, hn, h12, k⟩ := h
    have nd := scGet.nd
    have hu := hu_of hr
    have noF : ∀ {m : Str}, (¬ m = "_sections") → (¬ m = "_paces") → (¬ m = "_ticks") → (¬ m = "_orders") → (¬ m = "_leaders") → (df5 W.sc W.pd W.lt W.lo W.ll).lookup m = none := fun a b c d e => df5_no _ _ _ _ _ a b c d e
    refine ⟨_, pss_cons (ps_expr (pe_meth (pv 0) R.cl BC.at_ GC hr BC.bd .nil pass0 (pa_cons (pv 1) pa_nil)))
      (pss_one (ps_ret (pe_callTy call_tuple_of (by rfl) M.tuple boot_tTuple (pa_cons (pe_lc (own := [("ticks", 2)]) (g := gName 2) (tt := tYes) (te := tDGet (tVar 2) (tVar 1)) (by rfl) nd (pi_list (pe_fld (pv 0) rfl)) (blkOk_by (N := nDGet) (sc := defScope sDGet) (by decide +kernel))
        (fun _ _ _ _ _ => pg_name (i := 2) nd rfl (Or.inl rfl)) (fun _ _ _ _ _ => pts_nil) (fun _ _ _ _ _ => pe_dget hu (pv 2) (pv 1) (fun _ _ => rfl))) pa_nil)))), ?_⟩
    refine ⟨_, rfl, p, W.dx, _, rfl, D.ins, noF (by decide +kernel) (by decide +kernel) (by decide +kernel) (by decide +kernel) (by decide +kernel), _, rfl, p, secs, cars, n, rfl, ⟨H0, W, D⟩, hn, ?_⟩
    refine ⟨_, rfl, p, C, W.dx, _, _, rfl, D.ins, R.cl, R.nT, df5_ticks _ _ _ _ _, W.lt, rfl, ⟨_, SqL.of D.lt⟩, fun L hL => ?_⟩
    have hltz : (W.tds.map V.ref).length = secs.length + 1 := by rw [List.length_map, D.ltl]
    refine lc_it walk_list (fun i H1 => Same H H1 ∧ H1 L = some (.lst (((List.range i).map fun k => (plcC secs cars k).tk n).map V.int)))
      ⟨fun b o e => by rw [upd_ne (ne_of_none e hL)]; exact e, upd_same⟩ (fun i H1 _ ⟨k1, _⟩ => SqL.of (k1 _ _ D.lt)) ?_ ?_
    · rintro i y H1 H2 hi ⟨k1, hL1⟩ ⟨e, hy⟩
      subst e
      obtain ⟨t, ht, rfl⟩ : ∃ t, W.tds[i]? = some t ∧ y = V.ref t := by
        rw [List.getElem?_map] at hy
        obtain ⟨t, z1, z2⟩ := Option.map_eq_some_iff.mp hy
        exact ⟨t, z1, z2.symm⟩
      obtain ⟨kv, a1, a2⟩ := D.tk i t ht
      refine ⟨rfl, yes_of ?_⟩
      refine ⟨_, rfl, _, rfl, t, _, rfl, gk (k1 _ _ a1) (a2 n hn), _, hL1, ?_, fun b o e => by rw [upd_ne (ne_of_none e hL)]; exact k1 _ _ e, ?_⟩
      · rw [List.length_map, List.length_map, List.length_range]
        exact small1000 (by omega)
      · rw [upd_same, List.range_succ, List.map_append, List.map_append]
        rfl
    · rintro H1 ⟨k1, hL1⟩
      rw [hltz] at hL1
      refine ⟨L, _, rfl, .inl ⟨SqL.of hL1, fun t ht => ?_⟩⟩
      exact k _ t (fun b o e => by rw [upd_ne (ne_of_none (k1 _ _ e) ht)]; exact k1 _ _ e) upd_same
end
end Sl

set_option Elab.async false
set_option linter.all false
set_option maxRecDepth 100000
set_option maxHeartbeats 1000000
namespace Sl
open PySem PySem.Spec L2 OwnR LamX
section
variable {P : Program} {w : World} {K : PySem.W.Frag} {mg : Str → Option Value} {base : Heap}
/-! ### len(drive) -/
def spLenD (C : Addr) : Sp := fun vs H Q _ => ∃ (p : Addr) (secs : List Sec) (cars : List Car), vs = [.ref p] ∧ DA C H p secs cars ∧ Q (.int (cars.length : Nat)) H
theorem scLenD : FnScope ["self"] ["self"] (defScope sDLen) := ⟨rfl, rfl, rfl, by decide +kernel, rfl, by decide +kernel, by decide +kernel⟩
theorem ok_lenD {f C : Addr} {fd : FuncData} (F : Fun K "__len__" "Drive.__len__" sDLen f fd) (M : Mg mg) (R : DriveT K mg C) : FnOk P w K mg base CX0 1 f fd ["self"] (spLenD C) := by
  refine F.ok scLenD (fun vs H Q E h => ?_) (fun cdv A outer s H vs Q E hr h => ?_)
  · obtain ⟨p, secs, cars, rfl, _⟩ := h
    rfl
  · obtain ⟨p, secs, cars, rfl, ⟨H0, W, D⟩, k⟩ := h
    refine ⟨_, pss_one (ps_ret (pe_callB call_lenD (by rfl) M.len boot_len (pa_cons (pe_fld (pv 0) rfl) pa_nil))), ?_⟩
    refine ⟨_, rfl, p, C, W.dx, _, _, rfl, D.ins, R.cl, R.nP, df5_paces _ _ _ _ _, W.pd, _, rfl, D.pac, ?_⟩
    have e : (paceK cars).length = cars.length := by unfold paceK; rw [List.length_map]
    rw [e]
    exact k
theorem DP.tdk {C : Addr} {H0 H : Hp} {p : Addr} {secs : List Sec} {cars : List Car} {m : Nat} {W : DW} (D : DP C H0 H p secs cars m W) {k : Nat} (h : k ≤ m) : ∃ d, W.tds[k]? = some d := ⟨_, List.getElem?_eq_getElem (by rw [D.ltl]; omega)⟩
theorem DP.odk {C : Addr} {H0 H : Hp} {p : Addr} {secs : List Sec} {cars : List Car} {m : Nat} {W : DW} (D : DP C H0 H p secs cars m W) {k : Nat} (h : k ≤ m) : ∃ d, W.ods[k]? = some d := ⟨_, List.getElem?_eq_getElem (by rw [D.lol]; omega)⟩
theorem DP.ldk {C : Addr} {H0 H : Hp} {p : Addr} {secs : List Sec} {cars : List Car} {m : Nat} {W : DW} (D : DP C H0 H p secs cars m W) {k : Nat} (h : k < m) : ∃ d, W.lds[k]? = some d := ⟨_, List.getElem?_eq_getElem (by rw [D.lll]; omega)⟩
theorem map_at {α β : Type} {xs : List α} {k : Nat} {v : α} (f : α → β) (h : xs[k]? = some v) : (xs.map f)[k]? = some (f v) := by rw [List.getElem?_map, h]; rfl
/-! ### leader -/
def strO (o : Option Str) : V := (o.map V.str).getD .non
def spLeader (C : Addr) : Sp := fun vs H Q _ => ∃ (p : Addr) (secs : List Sec) (cars : List Car) (n : Str) (i : Nat), vs = [.ref p, .str n, .int (i : Nat)] ∧ DA C H p secs cars ∧ n ∈ names cars ∧ i < secs.length ∧ Q (strO (ldrC secs cars i n)) H
theorem scLeader : FnScope ["self", "name", "section"] ["self", "name", "section"] (defScope sDLeader) := ⟨rfl, rfl, rfl, by decide +kernel, rfl, by decide +kernel, by decide +kernel⟩
theorem ok_leader {f fB fC C : Addr} {fd dB dC : FuncData} (F : Fm K C "leader" "Drive.leader" sDLeader ["self", "name", "section"] f fd) (M : Mg mg) (R : DriveT K mg C)
    (BC : Fm K C "_check_car" "Drive._check_car" sDCheckCar ["self", "name"] fC dC) (GC : FnOk P w K mg base CX0 2 fC dC ["self", "name"] (spCheckCar C))
    (BB : Fm K C "_check_section" "Drive._check_section" sDCheckSection ["self", "section"] fB dB) (GB : FnOk P w K mg base CX0 2 fB dB ["self", "section"] (spCheckSection C)) : FnOk P w K mg base CX0 3 f fd ["self", "name", "section"] (spLeader C) := by
  refine F.fn.ok scLeader (fun vs H Q E h => ?_) (fun cdv A outer s H vs Q E hr h => ?_)
  · obtain ⟨p, secs, cars, n, i, rfl, _⟩ := h
    rfl
  · obtain ⟨p, secs, cars, n, i, rfl, ⟨H0, W, D⟩, hn, hi, k⟩ := h
    have hu := hu_of hr
    refine ⟨_, pss_cons (ps_expr (pe_meth (pv 0) R.cl BC.at_ GC hr BC.bd .nil pass0 (pa_cons (pv 1) pa_nil)))
      (pss_cons (ps_expr (pe_meth (pv 0) R.cl BB.at_ GB hr BB.bd .nil pass0 (pa_cons (pv 2) pa_nil)))
      (pss_one (ps_ret (pe_dget1 hu (pe_ix ix_list (pe_fld (pv 0) rfl) (pv 2) (fun _ _ => rfl)) (pv 1) ⟨rfl, rfl, rfl, rfl⟩)))), ?_⟩
    obtain ⟨ld, hld⟩ := D.ldk hi
    obtain ⟨kv, a1, a2⟩ := D.ld i ld hld
    have nf : ∀ {m : Str}, (¬ m = "_sections") → (¬ m = "_paces") → (¬ m = "_ticks") → (¬ m = "_orders") → (¬ m = "_leaders") → (df5 W.sc W.pd W.lt W.lo W.ll).lookup m = none := fun a b c d e => df5_no _ _ _ _ _ a b c d e
    refine ⟨_, rfl, p, W.dx, _, rfl, D.ins, nf (by decide +kernel) (by decide +kernel) (by decide +kernel) (by decide +kernel) (by decide +kernel), _, rfl, p, secs, cars, n, rfl, ⟨H0, W, D⟩, hn, ?_⟩
    refine ⟨_, rfl, p, W.dx, _, rfl, D.ins, nf (by decide +kernel) (by decide +kernel) (by decide +kernel) (by decide +kernel) (by decide +kernel), _, rfl, p, secs, cars, i, rfl, ⟨H0, W, D⟩, hi, ?_⟩
    refine ⟨_, rfl, p, C, W.dx, _, _, rfl, D.ins, R.cl, R.nL, df5_leaders _ _ _ _ _, _, rfl, W.ll, _, _, .ref ld, rfl, rfl, SqL.of D.ll, atI_nat (map_at V.ref hld), ?_⟩
    exact ⟨ld, rfl, .inl ⟨_, .inl a1⟩, _, rfl, _, gk0 a1 (a2 n), k⟩
/-! ### drive(name), drive(name, place) -/
def spCallD (C : Addr) : Sp := fun vs H Q _ => ∃ (p : Addr) (secs : List Sec) (cars : List Car) (n : Str) (i : Nat) (pl : V), vs = [.ref p, .str n, pl] ∧ DA C H p secs cars ∧ n ∈ names cars ∧ i ≤ secs.length ∧ ((pl = .non ∧ i = secs.length) ∨ pl = .int (i : Nat)) ∧ Q (.int ((plcC secs cars i).tk n)) H
theorem scCallD : FnScope ["self", "name", "place"] ["self", "name", "place"] (defScope sDCall) := ⟨rfl, rfl, rfl, by decide +kernel, rfl, by decide +kernel, by decide +kernel⟩
theorem ok_callD {f fB fC C : Addr} {fd dB dC : FuncData} (F : FunD K "__call__" "Drive.__call__" (defArgs sDCall) (defBody sDCall) (defScope sDCall) [.non] [] f fd) (M : Mg mg) (R : DriveT K mg C)
    (BC : Fm K C "_check_car" "Drive._check_car" sDCheckCar ["self", "name"] fC dC) (GC : FnOk P w K mg base CX0 2 fC dC ["self", "name"] (spCheckCar C))
    (BB : Fm K C "_check_place" "Drive._check_place" sDCheckPlace ["self", "place"] fB dB) (GB : FnOk P w K mg base CX0 2 fB dB ["self", "place"] (spCheckPlace C)) : FnOk P w K mg base CX0 3 f fd ["self", "name", "place"] (spCallD C) := by
  refine F.ok (CX := CX0) scCallD (fun vs H Q E h => ?_) (fun cdv A outer s H vs Q E hr h => ?_)
  · obtain ⟨p, secs, cars, n, i, pl, rfl, _⟩ := h
    rfl
  · suffices hq : ∃ t, PSs (cxOf CX0 P w K mg base ["self", "name", "place"] "Drive.__call__" (defScope sDCall) f cdv A outer s H E).nox (defBody sDCall) t ∧ t { nx := fun _ H' => Q .non H', rt := Q } (start ["self", "name", "place"] vs) H by
      obtain ⟨t, h1, h2⟩ := hq
      exact ⟨t, h1.nox, h2⟩
    obtain ⟨p, secs, cars, n, i, pl, rfl, ⟨H0, W, D⟩, hn, hi, hpl, k⟩ := h
    have hu := hu_of hr
    have nd := scCallD.nd
    refine ⟨_, pss_cons (ps_expr (pe_meth (pv 0) R.cl BC.at_ GC hr BC.bd .nil pass0 (pa_cons (pv 1) pa_nil)))
      (pss_cons (ps_if (pt_cmp (pc_isN (pv 2)) (by rfl)) (pss_one (ps_set (i := 2) nd rfl (.inl rfl) (pe_callB call_len_seq (by rfl) M.len boot_len (pa_cons (pe_fld (pv 0) rfl) pa_nil)))) pss_nil)
      (pss_cons (ps_expr (pe_meth (pv 0) R.cl BB.at_ GB hr BB.bd .nil pass0 (pa_cons (pv 2) pa_nil)))
      (pss_one (ps_ret (pe_dget hu (pe_ix ix_list (pe_fld (pv 0) rfl) (pv 2) (fun _ _ => rfl)) (pv 1) (fun _ _ => rfl)))))), ?_⟩
    obtain ⟨td, htd⟩ := D.tdk hi
    obtain ⟨kv, a1, a2⟩ := D.tk i td htd
    obtain ⟨us, u1, u2, u3⟩ := D.sec
    have nf : ∀ {m : Str}, (¬ m = "_sections") → (¬ m = "_paces") → (¬ m = "_ticks") → (¬ m = "_orders") → (¬ m = "_leaders") → (df5 W.sc W.pd W.lt W.lo W.ll).lookup m = none := fun a b c d e => df5_no _ _ _ _ _ a b c d e
    refine ⟨_, rfl, p, W.dx, _, rfl, D.ins, nf (by decide +kernel) (by decide +kernel) (by decide +kernel) (by decide +kernel) (by decide +kernel), _, rfl, p, secs, cars, n, rfl, ⟨H0, W, D⟩, hn, ?_⟩
    rcases hpl with ⟨rfl, rfl⟩ | rfl
    · refine ⟨_, rfl, _, rfl, ?_⟩
      rw [show decide (V.non = V.non) = true by simp]
      refine iteT ?_
      refine ⟨_, rfl, p, C, W.dx, _, _, rfl, D.ins, R.cl, R.nS, df5_sections _ _ _ _ _, W.sc, _, rfl, .inr (SqT.of u1), ?_⟩
      rw [List.length_map, u2]
      refine ⟨_, rfl, p, W.dx, _, rfl, D.ins, nf (by decide +kernel) (by decide +kernel) (by decide +kernel) (by decide +kernel) (by decide +kernel), _, rfl, p, secs, cars, secs.length, rfl, ⟨H0, W, D⟩, hi, ?_⟩
      refine ⟨_, rfl, p, C, W.dx, _, _, rfl, D.ins, R.cl, R.nT, df5_ticks _ _ _ _ _, _, rfl, W.lt, _, _, .ref td, rfl, rfl, SqL.of D.lt, atI_nat (map_at V.ref htd), ?_⟩
      exact ⟨_, rfl, td, _, rfl, gk a1 (a2 n hn), k⟩
    · refine ⟨_, rfl, _, rfl, ?_⟩
      rw [show decide (V.int ((i : Nat) : Int) = V.non) = false by simp]
      refine iteF ?_
      refine ⟨_, rfl, p, W.dx, _, rfl, D.ins, nf (by decide +kernel) (by decide +kernel) (by decide +kernel) (by decide +kernel) (by decide +kernel), _, rfl, p, secs, cars, i, rfl, ⟨H0, W, D⟩, hi, ?_⟩
      refine ⟨_, rfl, p, C, W.dx, _, _, rfl, D.ins, R.cl, R.nT, df5_ticks _ _ _ _ _, _, rfl, W.lt, _, _, .ref td, rfl, rfl, SqL.of D.lt, atI_nat (map_at V.ref htd), ?_⟩
      exact ⟨_, rfl, td, _, rfl, gk a1 (a2 n hn), k⟩
end
end Sl


set_option Elab.async false
set_option linter.all false
set_option maxRecDepth 100000
set_option maxHeartbeats 1000000
/-! for and if within a generator's body. -/
namespace OwnR
open PySem PySem.Spec PyProof.Rows L2 GenW
section
variable {X : Cx}
def tGIf (c : TT) (a b : TGn) : TGn := fun D ys σ H => c σ H fun d H1 => if d = true then a D ys σ H1 else b D ys σ H1
theorem gs_if {test : Expr} {a b : List Stmt} {pos : Pos} {tc : TT} {ta tb : TGn} (hc : PT X test tc) (ha : GSs X a ta) (hb : GSs X b tb) : GS X (.If test a b pos) (tGIf tc ta tb) := by
  refine ⟨fun A S ip R n ys s₀ c fs K J gd lv s σ H D g hn k hI ht => ?_⟩
  obtain ⟨acc, cc, r, I⟩ := hI
  rw [exec_If]
  refine seg_bind_wrap (wpAny_standAt ?_)
  refine seg_bind_wrap ?_
  rw [g.over]
  refine wpAny_mono (hc.run _ s σ H _ I ht) (fun d s' hd => ?_) fun x s' hx => k.exc n s₀ x s' hx
  obtain ⟨H2, I2, q2⟩ := hd
  cases d with
  | true => exact ha.run A S ip R n ys s₀ c fs K J gd lv s' σ H2 D g hn k ⟨acc, cc, r, I2⟩ q2
  | false => exact hb.run A S ip R n ys s₀ c fs K J gd lv s' σ H2 D g hn k ⟨acc, cc, r, I2⟩ q2
end
section
variable {prog : Program} {w : World} {A : Around} {R : GenEnd} {Y : Protocol} {n : Nat} {s₀ : Shared} {fs : List Frame} {s : Shared} {env : Env}
abbrev noteE (env : Env) (e : Value) : Sem PySem.Fin := (do noteFrame e env; theTreesLotGoes e : Sem Unit).wrap (fun _ => .raise e) .raise id id
theorem seg_forTurn {tg : Expr} {it : Value} {body : List Stmt}
    (h : wpAny (model prog w) (A.over (.forLoop tg it body [] env) fs) (pyNext it) (fun r s1 => match r with
        | none => Seg (model prog w) A R Y n s₀ (.forLoop tg it body [] env) (.pure (.again (.block [] env))) fs s1
        | some v => wpAny (model prog w) (A.over (.forLoop tg it body [] env) fs) (letOwnedTupleGo tg it v) (fun _ s2 => wpAny (model prog w) (A.over (.forLoop tg it body [] env) fs) (assign tg env v) (fun _ s3 =>
            Seg (model prog w) A R Y n s₀ (.forLoop tg it body [] env) ((execs body env).wrap (fun f => match f with
              | .next | .cont => .pure (.again (.forLoop tg it body [] env))
              | .brk => .pure (.done .next)
              | .ret v => .pure (.done (.ret v))) (noteE env) id id) fs s3)
            (fun x s' => Seg (model prog w) A R Y n s₀ (.forLoop tg it body [] env) (noteE env x) fs s') s2)
          (fun x s' => Seg (model prog w) A R Y n s₀ (.forLoop tg it body [] env) (noteE env x) fs s') s1)
      (fun x s' => Seg (model prog w) A R Y n s₀ (.forLoop tg it body [] env) (noteE env x) fs s') s) :
    Seg (model prog w) A R Y n s₀ (.forLoop tg it body [] env) ((model prog w).den (.forLoop tg it body [] env)) fs s := by
  have ee : ∀ x s', Seg (model prog w) A R Y n s₀ (.forLoop tg it body [] env) (noteE env x) fs s' → Seg (model prog w) A R Y n s₀ (.forLoop tg it body [] env) ((do noteFrame x env; theTreesLotGoes x : Sem Unit).bind fun _ => (.raise x : Sem PySem.Fin)) fs s' := fun x s' hx => by
    rw [Sem.bind_eq_wrap]
    exact hx
  show Seg _ A R Y n s₀ _ ((forTurn tg it body [] env).onRaise (fun x => do noteFrame x env; theTreesLotGoes x)) fs s
  unfold forTurn
  rw [Sem.onRaise_eq_wrap]
  refine seg_bind_wrap (wpAny_standAt ?_)
  refine seg_bind_wrap (wpAny_onRaise (wpAny_mono h (fun r s1 h1 => ?_) fun x s' hx => wpAny_standAt (ee x s' hx)))
  cases r with
  | none => exact h1
  | some v =>
    refine seg_bind_wrap (wpAny_mono h1 (fun _ s2 h2 => ?_) fun x s' hx => ee x s' hx)
    refine seg_bind_wrap (wpAny_mono h2 (fun _ s3 h3 => ?_) fun x s' hx => ee x s' hx)
    rw [Sem.bind_eq_wrap', Sem.wrap_wrap]
    rw [Sem.wrap_congr (execs body env) _ _ (K' := fun f => match f with
            | .next | .cont => .pure (.again (.forLoop tg it body [] env))
            | .brk => .pure (.done .next)
            | .ret v => .pure (.done (.ret v))) (H' := noteE env)
        (fun f => by cases f <;> rfl)
        (fun e => by first | exact Sem.bind_eq_wrap _ _ | (show (do noteFrame e env; theTreesLotGoes e : Sem Unit).bind (fun _ => .raise e) = _; rw [Sem.bind_eq_wrap]))]
    exact h3
end
section
variable {X : Cx}
def tGFor (wi : TI) (g : TG) (tb : TGn) : TGn := fun D ys σ H => wi σ H fun J H1 => ∃ W : Nat → Nat → List V → L2.St → Hp → Prop, (∃ m, W 0 m ys σ H1) ∧ ∀ i m ys σ H, W i m ys σ H →
  (J.stop i H ∧ D.nx ys σ H) ∨ (J.go i H ∧ ∃ N : List V → L2.St → Hp → Prop, (∀ ys' σ' H', N ys' σ' H' → ∃ m', m' < m ∧ W (i + 1) m' ys' σ' H') ∧ ∀ x H', J.yld i H x H' → g x σ H' fun σ2 H2 => tb { D with nx := N, ct := N, bk := D.nx } ys σ2 H2)
theorem gi_fewer {S : Addr} {ip pl : List (Addr × Obj)} {ys : List V} {σ : L2.St} {H : Hp} {s : Shared} (h : GI X S (ip ++ pl) ys σ H s) : GI X S ip ys σ H s := by
  obtain ⟨acc, c, r, I⟩ := h
  exact ⟨acc, c, r, Inv.unpinned (pins := (S, lstObj acc c) :: ip) (pl := pl) I⟩
theorem gs_for {tg iter : Expr} {body : List Stmt} {wi : TI} {g : TG} {tb : TGn} {pos : Pos} (hp : PassesOwn (model X.prog X.w) X.A X.env X.xe) (hc : X.calm = true) (hi : PI X tg iter wi) (hg : PG X tg g) (hb : GSs X body tb)
    (hs : ∀ x, foldedSetIterable iter X.env x = pure x := by intro _; rfl) : GS X (.For tg iter body [] pos) (tGFor wi g tb) := by
  refine ⟨fun A S ip R n ys s₀ c fs K J gd lv s σ H D gc hn k hI ht => ?_⟩
  obtain ⟨acc, cc, r, I⟩ := hI
  rw [exec_For]
  refine seg_bind_wrap (wpAny_standAt ?_)
  refine seg_bind_wrap ?_
  rw [gc.over]
  refine wpAny_mono (hi.run _ s σ H _ I ht) (fun v s1 h1 => ?_) fun x s' hx => k.exc n s₀ x s' hx
  refine seg_bind_wrap (wpAny_of_eq (hs v) ?_)
  refine seg_bind_wrap (wpAny_standAt ?_)
  refine seg_bind_wrap (wpAny_holding ?_)
  rw [gc.over]
  refine wpAny_mono h1 (fun itv s2 h2 => ?_) fun x s' hx => k.exc n s₀ x s' hx
  obtain ⟨it, fp, tn, J', H2, e, I2, T, st2, f2, W, ⟨m0, w0⟩, turn⟩ := h2
  subst e
  refine seg_call fun p => ?_
  have gl := fun (kk : Result → Sem PySem.Fin) => gc_loop (k := kk) (c' := .forLoop tg (.ref it) body [] X.env) (l := lv []) (kp := []) (p := p) gc rfl rfl
  have glb := fun (kk : Result → Sem PySem.Fin) => gc_loop (k := kk) (c' := .block [] X.env) (l := lv []) (kp := []) (p := p) gc rfl rfl
  have nS : ∀ b ∈ fp, b ≠ S := fun b hb => ((f2 b hb).2.2.2.2.2 (S, lstObj acc cc) (List.mem_append_right _ List.mem_cons_self)).symm
  have stat : ∀ {H' : Hp} {a2 : Array Value} {c2 : Nat}, (∀ b ∈ fp, H' b = none) → ∀ b ∈ fp, FpOk X ((S, lstObj a2 c2) :: ip) H' b := fun hn b hb => by
    obtain ⟨_, q1, q2, q3, q4, q5⟩ := f2 b hb
    refine ⟨hn b hb, q1, q2, q3, q4, fun p hp => ?_⟩
    rcases List.mem_append.mp hp with z | z
    · exact q5 p (List.mem_append_left _ z)
    · rcases List.mem_cons.mp z with z | z
      · rw [z]
        exact (nS b hb).symm
      · exact q5 p (List.mem_append_right _ (List.mem_cons_of_mem _ z))
  have loop : ∀ (m i n : Nat) (ys : List V) (s₀ s : Shared) (σ : L2.St) (H : Hp), n + ys.length = sizeLine → W i m ys σ H → GI X S ip ys σ H s → tn i s.heap → (∀ b ∈ fp, H b = none) →
      Seg (model X.prog X.w) A R (GY X S) n s₀ (.forLoop tg (.ref it) body [] X.env) ((model X.prog X.w).den (.forLoop tg (.ref it) body [] X.env))
        (.ret (fun r => ((match r with | .ok f => (.pure f : Sem Flow) | .error e => .raise e).onRaise (cameBack X.env)).wrap K J gd lv) none (gd false) (lv []) c p [] :: fs) s := by
    intro m
    induction m using Nat.strongRecOn with
    | ind m ih =>
      intro i n ys s₀ s σ H hn w hI st fr
      have ee : ∀ (n : Nat) (s₀ : Shared) (x : Value) (s' : Shared), X.xe x s' → Seg (model X.prog X.w) A R (GY X S) n s₀ (.forLoop tg (.ref it) body [] X.env) (noteE X.env x)
          (.ret (fun r => ((match r with | .ok f => (.pure f : Sem Flow) | .error e => .raise e).onRaise (cameBack X.env)).wrap K J gd lv) none (gd false) (lv []) c p [] :: fs) s' := fun n s₀ x s' hx => by
        refine seg_wrap ?_
        rw [(gl _).over]
        refine wpAny_bind (wpAny_mono (hp x s' hx) (fun _ s'' hcb => wpAny_theTreesLotGoes ?_) fun y s'' hcb => ?_)
        · exact seg_leaf (.error x) (seg_cameBack gc k hcb)
        · exact seg_leaf (.error y) (seg_cameBack gc k hcb)
      refine seg_forTurn ?_
      rw [(gl _).over]
      obtain ⟨acc, cc, r, I⟩ := hI
      rcases turn i m ys σ H w with ⟨stop, qn⟩ | ⟨go, N, hN, step⟩
      · refine wpAny_mono (T.done X rfl rfl rfl hc i _ s σ H X.xe I (stat fr) st stop) (fun r s4 ⟨hr, I4⟩ => ?_) fun x s' hx => ee n s₀ x s' hx
        subst hr
        refine seg_again rfl ?_
        exact seg_leaf (.ok .next) (k.ok n ys s₀ s4 .next hn ⟨σ, H, ⟨acc, cc, r, I4⟩, qn⟩)
      · refine wpAny_mono (T.item X rfl rfl rfl hc i _ s σ H X.xe I (stat fr) st go) (fun r0 s4 ⟨u, hr, h4⟩ => ?_) fun x s' hx => ee n s₀ x s' hx
        subst hr
        refine wpAny_mono h4 (fun _ s5 ⟨x, H5, I5, r5, y5, st5, fr5⟩ => ?_) fun x s' hx => ee n s₀ x s' hx
        have I5' := I5.pinned (stat fr5) (T.obj _ _ st5)
        refine wpAny_mono (hg.run _ s5 σ H5 x u _ I5' r5 (step x H5 y5)) (fun _ s6 ⟨σ6, H6, I6, q6⟩ => ?_) fun x s' hx => ee n s₀ x s' hx
        have gl2 : GC X S (ip ++ pinsAt fp s5.heap) A (.forLoop tg (.ref it) body [] X.env) (.ret (fun r => ((match r with | .ok f => (.pure f : Sem Flow) | .error e => .raise e).onRaise (cameBack X.env)).wrap K J gd lv) none (gd false) (lv []) c p [] :: fs) id :=
          { gl _ with ip := fun q hq => (List.mem_append.mp hq).elim (fun z => gc.ip q z) fun z => nS _ (of_pinsAt z).1 }
        have again : ∀ {n' : Nat} {ys' : List V} {s₀' s7 : Shared} {σ7 : L2.St} {H7 : Hp}, n' + ys'.length = sizeLine → GI X S (ip ++ pinsAt fp s5.heap) ys' σ7 H7 s7 → N ys' σ7 H7 →
            Seg (model X.prog X.w) A R (GY X S) n' s₀' (.forLoop tg (.ref it) body [] X.env) (.pure (.again (.forLoop tg (.ref it) body [] X.env)))
              (.ret (fun r => ((match r with | .ok f => (.pure f : Sem Flow) | .error e => .raise e).onRaise (cameBack X.env)).wrap K J gd lv) none (gd false) (lv []) c p [] :: fs) s7 := fun {n' ys' s₀' s7 σ7 H7} hn' G7 n7 => by
          obtain ⟨m', hm, w7⟩ := hN ys' σ7 H7 n7
          obtain ⟨acc7, c7, r7, I7⟩ := id G7
          refine seg_again rfl (ih m' hm (i + 1) n' ys' s₀' s7 σ7 H7 hn' w7 (gi_fewer G7) (T.keep _ _ _ st5 fun b hb o e => ?_) fun b hb => ?_)
          · exact (I7.pin (b, o) (List.mem_append_right _ (List.mem_cons_of_mem _ (List.mem_append_right _ (mem_pinsAt hb e))))).1
          · obtain ⟨o, e, d⟩ := T.obj _ _ st5 b hb
            exact (I7.pin (b, o) (List.mem_append_right _ (List.mem_cons_of_mem _ (List.mem_append_right _ (mem_pinsAt hb e))))).2.1
        refine hb.run A S (ip ++ pinsAt fp s5.heap) R n ys s₀ _ _ _ _ id id s6 σ6 H6 { D with nx := N, ct := N, bk := D.nx } gl2 hn ⟨fun n' ys' s₀' s7 f hn' hs => ?_, fun n' s₀' x s7 hx => ee n' s₀' x s7 hx⟩ ⟨acc, cc, r, I6⟩ q6
        cases f with
        | next => obtain ⟨σ7, H7, G7, n7⟩ := hs; exact again hn' G7 n7
        | cont => obtain ⟨σ7, H7, G7, n7⟩ := hs; exact again hn' G7 n7
        | brk => obtain ⟨σ7, H7, G7, q7⟩ := hs; exact seg_leaf (.ok .next) (k.ok n' ys' s₀' s7 .next hn' ⟨σ7, H7, (gi_fewer G7), q7⟩)
        | ret v => obtain ⟨x7, σ7, H7, G7, r7, q7⟩ := hs; exact seg_leaf (.ok (.ret v)) (k.ok n' ys' s₀' s7 (.ret v) hn' ⟨x7, σ7, H7, (gi_fewer G7), r7, q7⟩)
  exact loop m0 0 n ys s₀ s2 σ H2 hn w0 ⟨acc, cc, r, I2⟩ st2 fun b hb => (f2 b hb).1
/-- over any walk -/
theorem gfor_it {J : It} {n : Nat} {G : Hp → Prop} {Y : Nat → Hp → V → Hp → Prop} (w : Walk J n G Y) {g : TG} {tb : TGn} {D : GEnds} {ys : List V} {σ : L2.St} {H : Hp} (Pv : Nat → List V → L2.St → Hp → Prop) (h0 : Pv 0 ys σ H) (hG : ∀ i ys σ H, i ≤ n → Pv i ys σ H → G H)
    (hs : ∀ i x ys σ H H', i < n → Pv i ys σ H → Y i H x H' → g x σ H' fun σ2 H2 => tb { D with nx := Pv (i + 1), ct := Pv (i + 1), bk := D.nx } ys σ2 H2) (hd : ∀ ys σ H, Pv n ys σ H → D.nx ys σ H) :
    ∃ W : Nat → Nat → List V → L2.St → Hp → Prop, (∃ m, W 0 m ys σ H) ∧ ∀ i m ys σ H, W i m ys σ H →
      (J.stop i H ∧ D.nx ys σ H) ∨ (J.go i H ∧ ∃ N : List V → L2.St → Hp → Prop, (∀ ys' σ' H', N ys' σ' H' → ∃ m', m' < m ∧ W (i + 1) m' ys' σ' H') ∧ ∀ x H', J.yld i H x H' → g x σ H' fun σ2 H2 => tb { D with nx := N, ct := N, bk := D.nx } ys σ2 H2) := by
  refine ⟨fun i m ys σ H => m = n - i ∧ i ≤ n ∧ Pv i ys σ H, ⟨n, by simp, Nat.zero_le _, h0⟩, ?_⟩
  rintro i m ys σ H ⟨rfl, hi, p⟩
  have q := hG i ys σ H hi p
  by_cases hlt : i < n
  · exact .inr ⟨w.goes i H hlt q, Pv (i + 1), fun ys' σ' H' p' => ⟨n - (i + 1), by omega, rfl, hlt, p'⟩, fun x H' y => hs i x ys σ H H' hlt p (w.yields i H x H' hlt q y)⟩
  · have e : i = n := by omega
    subst e
    exact .inl ⟨w.stops H q, hd ys σ H p⟩
end
end OwnR

set_option Elab.async false
set_option linter.all false
set_option maxRecDepth 100000
set_option maxHeartbeats 1000000
namespace Sl
open PySem PySem.Spec L2 OwnR LamX
/-! ### overtakings -/
def posL (n : Str) : List Str → Nat
  | [] => 0
  | a :: r => if a = n then 0 else posL n r + 1
theorem posL_at {n : Str} : ∀ {l : List Str}, n ∈ l → l[posL n l]? = some n
  | a :: r, h => by
    unfold posL
    by_cases e : a = n
    · rw [if_pos e, e]
      rfl
    · rw [if_neg e]
      have hm : n ∈ r := (List.mem_cons.mp h).elim (fun z => absurd z.symm e) id
      have := posL_at hm
      simpa using this
theorem posL_not {n : Str} : ∀ {l : List Str} {m : Nat} {z : Str}, l[m]? = some z → m < posL n l → z ≠ n
  | a :: r, m, z, h, hm => by
    unfold posL at hm
    by_cases e : a = n
    · rw [if_pos e] at hm
      omega
    · rw [if_neg e] at hm
      cases m with
      | zero =>
        have : a = z := by simpa using h
        rw [← this]
        exact e
      | succ m => exact posL_not (l := r) (m := m) (by simpa using h) (by omega)
abbrev OvT := Nat × Str × Str
def ovIn (after : List Str) (k i : Nat) (n : Str) (l : List Str) : List OvT := (l.filter fun o => decide (o ∈ after.drop (i + 1))).map fun o => (k, n, o)
def ovMid (before after : List Str) (k i : Nat) : List OvT := match after[i]? with
  | some n => ovIn after k i n (before.take (posL n before))
  | none => []
def ovSec (before after : List Str) (k i : Nat) : List OvT := (List.range i).flatMap (ovMid before after k)
def ovAll (secs : List Sec) (cars : List Car) (i : Nat) : List OvT := (List.range i).flatMap fun k => ovSec (plcC secs cars k).ord (plcC secs cars (k + 1)).ord k cars.length
theorem ovIn_snoc (after : List Str) (k i : Nat) (n : Str) (l : List Str) (o : Str) : ovIn after k i n (l ++ [o]) = ovIn after k i n l ++ (if o ∈ after.drop (i + 1) then [(k, n, o)] else []) := by
  unfold ovIn
  rw [List.filter_append, List.map_append]
  by_cases h : o ∈ after.drop (i + 1)
  · rw [if_pos h]
    simp [h]
  · rw [if_neg h]
    simp [h]
theorem ovSec_succ (before after : List Str) (k i : Nat) : ovSec before after k (i + 1) = ovSec before after k i ++ ovMid before after k i := by
  unfold ovSec
  rw [List.range_succ, List.flatMap_append]
  simp
theorem ovAll_succ (secs : List Sec) (cars : List Car) (i : Nat) : ovAll secs cars (i + 1) = ovAll secs cars i ++ ovSec (plcC secs cars i).ord (plcC secs cars (i + 1)).ord i cars.length := by
  unfold ovAll
  rw [List.range_succ, List.flatMap_append]
  simp
theorem ovIn_len (after : List Str) (k i : Nat) (n : Str) (l : List Str) : (ovIn after k i n l).length ≤ l.length := by
  unfold ovIn
  rw [List.length_map]
  exact List.length_filter_le _ _
theorem ovMid_len {before : List Str} (after : List Str) (k i : Nat) {b : Nat} (h : before.length ≤ b) : (ovMid before after k i).length ≤ b := by
  unfold ovMid
  split
  · refine Nat.le_trans (ovIn_len _ _ _ _ _) ?_
    rw [List.length_take]
    omega
  · exact Nat.zero_le _
theorem ovSec_len {before : List Str} (after : List Str) (k : Nat) {b : Nat} (h : before.length ≤ b) : ∀ i, (ovSec before after k i).length ≤ i * b
  | 0 => by simp [ovSec]
  | i + 1 => by
    have h1 := ovSec_len after k h i
    have h2 := ovMid_len after k i h
    rw [ovSec_succ, List.length_append, Nat.succ_mul]
    omega
theorem ovAll_len {secs : List Sec} {cars : List Car} (h : cars.length ≤ 10) : ∀ i, (ovAll secs cars i).length ≤ i * 100
  | 0 => by simp [ovAll]
  | i + 1 => by
    have h1 := ovAll_len (secs := secs) h i
    have h2 : (ovSec (plcC secs cars i).ord (plcC secs cars (i + 1)).ord i cars.length).length ≤ cars.length * 10 := ovSec_len _ _ (by
      rw [(plcC_perm secs cars i).length_eq]
      unfold names
      rw [List.length_map]
      exact h) _
    rw [ovAll_succ, List.length_append, Nat.succ_mul]
    omega
def ovV (q : OvT) : List V := [.int (q.1 : Nat), .str q.2.1, .str q.2.2]
def OvAt (H : Hp) (ys : List V) (l : List OvT) : Prop := ys.length = l.length ∧ ∀ (j : Nat) (y : V) (q : OvT), ys[j]? = some y → l[j]? = some q → ∃ t, y = .ref t ∧ H t = some (.tup (ovV q))
theorem OvAt.keep {H H' : Hp} {ys : List V} {l : List OvT} (h : OvAt H ys l) (e : Same H H') : OvAt H' ys l := ⟨h.1, fun j y q e1 e2 => let ⟨t, z1, z2⟩ := h.2 j y q e1 e2; ⟨t, z1, e _ _ z2⟩⟩
theorem OvAt.more {H : Hp} {ys : List V} {l : List OvT} {q : OvT} {t : Addr} (h : OvAt H ys l) (e : H t = some (.tup (ovV q))) : OvAt H (ys ++ [.ref t]) (l ++ [q]) := by
  refine ⟨by rw [List.length_append, List.length_append, h.1]; rfl, fun j y p e1 e2 => ?_⟩
  rcases snoc_get e1 with e1 | ⟨hj, rfl⟩
  · have hj := (List.getElem?_eq_some_iff.mp e1).1
    rw [List.getElem?_append_left (by rw [← h.1]; exact hj)] at e2
    exact h.2 j y p e1 e2
  · rcases snoc_get e2 with e2 | ⟨_, rfl⟩
    · have := (List.getElem?_eq_some_iff.mp e2).1
      rw [h.1] at hj
      omega
    · exact ⟨t, rfl, e⟩
theorem cut_to {l : List V} {k : Nat} (h : k ≤ l.length) : cutV l none (some (k : Nat)) = l.take k := by
  unfold cutV
  have e : HT.sIx l.length l.length (some ((k : Nat) : Int)) = k := by
    show (if ((k : Nat) : Int) < 0 then (((k : Nat) : Int) + ((l.length : Nat) : Int)).toNat else min (((k : Nat) : Int)).toNat l.length) = k
    rw [if_neg (by omega)]
    omega
  have e0 : HT.sIx l.length 0 none = 0 := rfl
  rw [e, e0]
  simp
theorem cut_from {l : List V} {k : Nat} (h : k ≤ l.length) : cutV l (some (k : Nat)) none = l.drop k := by
  unfold cutV
  have e : HT.sIx l.length 0 (some ((k : Nat) : Int)) = k := by
    show (if ((k : Nat) : Int) < 0 then (((k : Nat) : Int) + ((l.length : Nat) : Int)).toNat else min (((k : Nat) : Int)).toNat l.length) = k
    rw [if_neg (by omega)]
    omega
  have e0 : HT.sIx l.length l.length none = l.length := rfl
  rw [e, e0]
  apply List.take_of_length_le
  rw [List.length_drop]
  exact Nat.le_refl _
section
variable {P : Program} {w : World} {K : PySem.W.Frag} {mg : Str → Option Value} {base : Heap}
end
end Sl

set_option Elab.async false
set_option linter.all false
set_option maxRecDepth 100000
set_option maxHeartbeats 1000000
namespace Sl
open PySem PySem.Spec L2 OwnR LamX
/-! ### losses -/
def unitsN (secs : List Sec) : Nat := (secs.map (·.2)).sum
def lossOf (secs : List Sec) (cars : List Car) (c : Car) : Int := (plcC secs cars secs.length).tk c.name - startOf cars c.name - c.pace * ((unitsN secs : Nat) : Int)
def lossK (secs : List Sec) (cars : List Car) : List (Key × V) := cars.map fun c => (Sum.inr c.name, V.int (lossOf secs cars c))
theorem sum_int : ∀ l : List Nat, (l.map fun n => ((n : Nat) : Int)).sum = ((l.sum : Nat) : Int)
  | [] => rfl
  | a :: r => by
    rw [List.map_cons, List.sum_cons, List.sum_cons, sum_int r]
    omega
theorem gkR {H : Hp} {a : Addr} {kvs : List (Key × V)} {n : Str} {v : V} (e : Rd H a (.dK kvs)) (h : valV kvs (Sum.inr n : Key) = some v) : DGet H a (.str n) (some v) := .inl ⟨kvs, Sum.inr n, e, rfl, h.symm⟩
section
variable {P : Program} {w : World} {K : PySem.W.Frag} {mg : Str → Option Value} {base : Heap}
end
end Sl

set_option Elab.async false
set_option linter.all false
set_option maxRecDepth 100000
set_option maxHeartbeats 1000000
namespace Sl
open PySem PySem.Spec L2 OwnR LamX
/-! ### the law's row of drawn numbers -/
def KeepB (r : Addr) (H H' : Hp) : Prop := ∀ b o, H b = some o → b ≠ r → H' b = some o
theorem KeepB.refl (r : Addr) (H : Hp) : KeepB r H H := fun _ _ e _ => e
theorem KeepB.trans {r : Addr} {H H1 H2 : Hp} (a : KeepB r H H1) (b : KeepB r H1 H2) : KeepB r H H2 := fun x o e n => b x o (a x o e n) n
theorem KeepB.of {r : Addr} {H H1 : Hp} (a : Same H H1) : KeepB r H H1 := fun x o e _ => a x o e
theorem KeepB.upd {r : Addr} {H : Hp} (o : HO) : KeepB r H (upd H r o) := fun x p e n => by rw [upd_ne n]; exact e
structure RowAt (K : PySem.W.Frag) (H : Hp) (r sc : Addr) (ns : List Int) : Prop where
  at_ : ∃ (a : Nat) (b c : Int), H r = some (.lst [.ref sc, .int (a : Nat), .int b, .int c])
  scr : ∀ H', KeepB r H H' → SqL K H' sc (ns.map V.int)
theorem KeepB.sqL {K : PySem.W.Frag} {r a : Addr} {H H' : Hp} {xs : List V} (k : KeepB r H H') (n : a ≠ r) (h : SqL K H a xs) : SqL K H' a xs := by
  rcases h with (h | ⟨o, h⟩) | h
  · exact .inl (.inl (k _ _ h n))
  · exact .inl (.inr ⟨o, k _ _ h n⟩)
  · exact .inr h
theorem RowAt.put {K : PySem.W.Frag} {H : Hp} {r sc : Addr} {ns : List Int} (R : RowAt K H r sc ns) (a : Nat) (b c : Int) : RowAt K (upd H r (.lst [.ref sc, .int (a : Nat), .int b, .int c])) r sc ns :=
  ⟨⟨a, b, c, upd_same⟩, fun H' k => R.scr H' ((KeepB.upd _).trans k)⟩
theorem RowAt.same {K : PySem.W.Frag} {H H' : Hp} {r sc : Addr} {ns : List Int} (R : RowAt K H r sc ns) (e : Same H H') : RowAt K H' r sc ns :=
  ⟨let ⟨a, b, c, h⟩ := R.at_; ⟨a, b, c, e _ _ h⟩, fun H2 k => R.scr H2 ((KeepB.of e).trans k)⟩
theorem RowAt.now {K : PySem.W.Frag} {H : Hp} {r sc : Addr} {ns : List Int} (R : RowAt K H r sc ns) : SqL K H sc (ns.map V.int) := R.scr H (KeepB.refl _ _)
section
variable {P : Program} {w : World} {K : PySem.W.Frag} {mg : Str → Option Value} {base : Heap}
theorem mod_nat (z : Int) {m : Nat} (h : 1 ≤ m) : ∃ q : Nat, z % (m : Int) = (q : Int) ∧ q < m := by
  have h1 := Int.emod_nonneg z (show (m : Int) ≠ 0 by omega)
  have h2 := Int.emod_lt_of_pos z (show (0 : Int) < m by omega)
  exact ⟨(z % (m : Int)).toNat, by omega, by omega⟩
def spNext (K : PySem.W.Frag) : Sp := fun vs H Q _ => ∃ (r sc : Addr) (ns : List Int) (m : Nat), vs = [.ref r, .int (m : Nat)] ∧ 1 ≤ m ∧ m ≤ 1000 ∧ RowAt K H r sc ns ∧ ∀ H' (q : Nat), KeepB r H H' → RowAt K H' r sc ns → q < m → Q (.int (q : Nat)) H'
def nNext : List Str := ["_law_dice_here", "_law_many", "_law_found", "_law_cell"]
theorem scNext : FnScope nNext ["_law_dice_here", "_law_many"] (defScope sNext) := ⟨rfl, rfl, rfl, by decide +kernel, rfl, by decide +kernel, by decide +kernel⟩
theorem ok_next {f : Addr} {fd : FuncData} (F : Fun K "_law_next" "_law_next" sNext f fd) (M : Mg mg) : FnOk P w K mg base CX0 1 f fd ["_law_dice_here", "_law_many"] (spNext K) := by
  refine F.ok scNext (fun vs H Q E h => ?_) (fun cdv A outer s H vs Q E hr h => ?_)
  · obtain ⟨r, sc, ns, m, rfl, _⟩ := h
    rfl
  · obtain ⟨r, sc, ns, m, rfl, h1, h1000, ⟨⟨a, b, c, hrow⟩, hsc⟩, k⟩ := h
    have nd := scNext.nd
    refine ⟨_, pss_cons (ps_if (pt_cmpR op_gt (pe_ix ix_list (pv 0) pe_int (fun _ _ => rfl)) pe_int (nomark _))
        (pss_cons (ps_set (i := 2) nd rfl (.inl rfl) (pe_op op_mod (pe_callTy call_int1 (by rfl) M.int boot_tInt (pa_cons (pe_ix ix_list (pv 0) pe_int (fun _ _ => rfl)) pa_nil)) (pv 1)))
        (pss_cons (ps_asg (pe_op op_fdiv (pe_ix ix_list (pv 0) pe_int (fun _ _ => rfl)) (pv 1)) (pg_sub (pv 0) pe_int set_list))
        (pss_one (ps_ret (pv 2))))) pss_nil)
      (pss_cons (ps_asg (pe_op op_add (pe_ix ix_list (pv 0) pe_int (fun _ _ => rfl)) pe_int) (pg_sub (pv 0) pe_int set_list))
      (pss_cons (ps_if (pt_cmpR op_le (pe_ix ix_list (pv 0) pe_int (fun _ _ => rfl)) (pe_callB call_len_seq (by rfl) M.len boot_len (pa_cons (pe_ix ix_list (pv 0) pe_int (fun _ _ => rfl)) pa_nil)) (nomark _))
        (pss_cons (ps_set (i := 3) nd rfl (.inl rfl) (pe_ix ix_list (pe_ix ix_list (pv 0) pe_int (fun _ _ => rfl)) (pe_op op_sub (pe_ix ix_list (pv 0) pe_int (fun _ _ => rfl)) pe_int) (fun _ _ => rfl)))
        (pss_cons (ps_asg (pe_ifExp (pt_cmpR op_ge (pv 3) (pe_op op_pow pe_int pe_int) (nomark _)) (pe_op op_fdiv (pv 3) (pv 1)) pe_int) (pg_sub (pv 0) pe_int set_list))
        (pss_one (ps_ret (pe_op op_mod (pe_callTy call_int1 (by rfl) M.int boot_tInt (pa_cons (pv 3) pa_nil)) (pv 1)))))) pss_nil)
      (pss_cons (ps_asg (pe_op op_mod (pe_callTy call_int1 (by rfl) M.int boot_tInt (pa_cons (pe_op op_mul (pe_ix ix_list (pv 0) pe_int (fun _ _ => rfl)) pe_int) pa_nil)) pe_int) (pg_sub (pv 0) pe_int set_list))
      (pss_one (ps_ret (pe_op op_mod (pe_callTy call_int1 (by rfl) M.int boot_tInt (pa_cons (pe_op op_fdiv (pe_ix ix_list (pv 0) pe_int (fun _ _ => rfl)) pe_int) pa_nil)) (pv 1))))))), ?_⟩
    have at0 : ∀ (x y z v : V), atI [x, y, z, v] 0 = some x := fun _ _ _ _ => rfl
    have at1 : ∀ (x y z v : V), atI [x, y, z, v] 1 = some y := fun _ _ _ _ => rfl
    have at2 : ∀ (x y z v : V), atI [x, y, z, v] 2 = some z := fun _ _ _ _ => rfl
    have at3 : ∀ (x y z v : V), atI [x, y, z, v] 3 = some v := fun _ _ _ _ => rfl
    have R0 : RowAt K H r sc ns := ⟨⟨a, b, c, hrow⟩, hsc⟩
    have md : ∀ z : Int, ∃ q : Nat, z % ((m : Nat) : Int) = (q : Int) ∧ q < m := fun z => mod_nat z h1
    refine ⟨_, rfl, r, _, 3, _, rfl, rfl, SqL.of hrow, at3 _ _ _ _, _, _, rfl, rfl, _, rfl, ?_⟩
    by_cases hc : 0 < c
    · rw [decide_eq_true hc]
      refine iteT ?_
      obtain ⟨q, eq, hq⟩ := md c
      refine ⟨_, rfl, r, _, 3, _, rfl, rfl, SqL.of hrow, at3 _ _ _ _, .inl ⟨c, rfl, _, rfl, _, _, rfl, rfl, by omega, ?_⟩⟩
      refine ⟨_, rfl, r, _, 3, _, rfl, rfl, SqL.of hrow, at3 _ _ _ _, _, rfl, _, _, rfl, rfl, ⟨by omega, by omega⟩, ?_⟩
      refine ⟨_, rfl, r, _, 3, 3, rfl, rfl, hrow, rfl, ?_⟩
      have z := k _ q (KeepB.upd _) (R0.put a b (c / ((m : Nat) : Int))) hq
      rw [← eq] at z
      exact ⟨_, rfl, z⟩
    · rw [decide_eq_false hc]
      refine iteF ?_
      refine ⟨_, rfl, r, _, 1, _, rfl, rfl, SqL.of hrow, at1 _ _ _ _, _, _, rfl, rfl, ?_⟩
      refine ⟨_, rfl, r, _, 1, 1, rfl, rfl, hrow, rfl, ?_⟩
      have hrow1 : upd H r (.lst ([V.ref sc, .int ((a : Nat) : Int), .int b, .int c].set 1 (.int (((a : Nat) : Int) + 1)))) r = some (.lst [V.ref sc, .int (((a + 1 : Nat)) : Int), .int b, .int c]) := by
        rw [upd_same]
        rfl
      have R1 : RowAt K (upd H r (.lst ([V.ref sc, .int ((a : Nat) : Int), .int b, .int c].set 1 (.int (((a : Nat) : Int) + 1))))) r sc ns := R0.put (a + 1) b c
      have k1 : KeepB r H (upd H r (.lst ([V.ref sc, .int ((a : Nat) : Int), .int b, .int c].set 1 (.int (((a : Nat) : Int) + 1))))) := KeepB.upd _
      show tSeq _ _ _ _ (upd H r (.lst ([V.ref sc, .int ((a : Nat) : Int), .int b, .int c].set 1 (.int (((a : Nat) : Int) + 1)))))
      generalize upd H r (.lst ([V.ref sc, .int ((a : Nat) : Int), .int b, .int c].set 1 (.int (((a : Nat) : Int) + 1)))) = H1 at hrow1 R1 k1 ⊢
      refine ⟨_, rfl, r, _, 1, _, rfl, rfl, SqL.of hrow1, at1 _ _ _ _, _, rfl, r, _, 0, _, rfl, rfl, SqL.of hrow1, at0 _ _ _ _, sc, _, rfl, .inl R1.now, _, _, rfl, rfl, _, rfl, ?_⟩
      by_cases hl : (((a + 1 : Nat)) : Int) ≤ (((ns.map V.int).length : Nat) : Int)
      · rw [decide_eq_true hl]
        refine iteT ?_
        rw [List.length_map] at hl
        have hal : a < ns.length := by omega
        obtain ⟨cell, hcell⟩ : ∃ z, ns[a]? = some z := ⟨_, List.getElem?_eq_getElem hal⟩
        refine ⟨_, rfl, r, _, 0, _, rfl, rfl, SqL.of hrow1, at0 _ _ _ _, _, rfl, r, _, 1, _, rfl, rfl, SqL.of hrow1, at1 _ _ _ _, _, _, rfl, rfl, sc, _, ((a : Nat) : Int), .int cell, rfl, ?_, R1.now, atI_nat (map_at V.int hcell), ?_⟩
        · show V.int ((((a + 1 : Nat)) : Int) - 1) = V.int ((a : Nat) : Int)
          congr 1
          omega
        refine ⟨_, rfl, _, _, rfl, rfl, ⟨by decide, by decide, by decide⟩, _, _, rfl, rfl, _, rfl, ?_⟩
        obtain ⟨q, eq, hq⟩ := md cell
        by_cases hb : (10 : Int) ^ (18 : Int).toNat ≤ cell
        · rw [decide_eq_true hb]
          refine iteT ?_
          refine ⟨_, rfl, _, rfl, _, _, rfl, rfl, ⟨by omega, by omega⟩, ?_⟩
          refine ⟨_, rfl, r, _, 3, 3, rfl, rfl, hrow1, rfl, ?_⟩
          refine ⟨_, rfl, .inl ⟨_, rfl, _, rfl, _, _, rfl, rfl, by omega, ?_⟩⟩
          have z := k _ q (k1.trans (KeepB.upd _)) (R1.put (a + 1) b (cell / ((m : Nat) : Int))) hq
          rw [← eq] at z
          exact z
        · rw [decide_eq_false hb]
          refine iteF ?_
          refine ⟨_, rfl, r, _, 3, 3, rfl, rfl, hrow1, rfl, ?_⟩
          refine ⟨_, rfl, .inl ⟨_, rfl, _, rfl, _, _, rfl, rfl, by omega, ?_⟩⟩
          have z := k _ q (k1.trans (KeepB.upd _)) (R1.put (a + 1) b 0) hq
          rw [← eq] at z
          exact z
      · rw [decide_eq_false hl]
        refine iteF ?_
        refine ⟨_, rfl, r, _, 2, _, rfl, rfl, SqL.of hrow1, at2 _ _ _ _, _, _, rfl, rfl, .inr ⟨by decide, by decide⟩, .inl ⟨_, rfl, _, _, rfl, rfl, (show (0 : Int) < 2147483647 by decide), ?_⟩⟩
        refine ⟨_, rfl, r, _, 2, 2, rfl, rfl, hrow1, rfl, ?_⟩
        have hrow2 : upd H1 r (.lst ([V.ref sc, .int (((a + 1 : Nat)) : Int), .int b, .int c].set 2 (.int (b * 48271 % 2147483647)))) r = some (.lst [V.ref sc, .int (((a + 1 : Nat)) : Int), .int (b * 48271 % 2147483647), .int c]) := by
          rw [upd_same]
          rfl
        refine ⟨_, rfl, r, _, 2, _, rfl, rfl, SqL.of hrow2, at2 _ _ _ _, _, _, rfl, rfl, ⟨by decide, by decide⟩, .inl ⟨_, rfl, _, rfl, _, _, rfl, rfl, by omega, ?_⟩⟩
        obtain ⟨q, eq, hq⟩ := md (b * 48271 % 2147483647 / 7)
        have z := k _ q (k1.trans (KeepB.upd _)) (R1.put (a + 1) (b * 48271 % 2147483647) c) hq
        rw [← eq] at z
        exact z
/-! ### _law_dice -/
def spDice (K : PySem.W.Frag) : Sp := fun vs H Q _ => ∃ (sc : Addr) (ns : List Int), vs = [.ref sc] ∧ SqL K H sc (ns.map V.int) ∧ ∀ H' r, Same H H' → H r = none → RowAt K H' r sc ns → Q (.ref r) H'
def nDice : List Str := ["_law_script", "_law_mixed", "_law_cell"]
theorem scDice : FnScope nDice ["_law_script"] (defScope sDice) := ⟨rfl, rfl, rfl, by decide +kernel, rfl, by decide +kernel, by decide +kernel⟩
theorem ok_dice {f : Addr} {fd : FuncData} (F : Fun K "_law_dice" "_law_dice" sDice f fd) (M : Mg mg) : FnOk P w K mg base CX0 1 f fd ["_law_script"] (spDice K) := by
  refine F.ok scDice (fun vs H Q E h => ?_) (fun cdv A outer s H vs Q E hr h => ?_)
  · obtain ⟨sc, ns, rfl, _⟩ := h
    rfl
  · obtain ⟨sc, ns, rfl, hsc, k⟩ := h
    have nd := scDice.nd
    refine ⟨_, pss_cons (ps_set (i := 1) nd rfl (.inl rfl) pe_int)
      (pss_cons (ps_for PassesOwn.never rfl (pi_list (pv 0)) (pg_name (i := 2) nd rfl (.inl rfl))
        (pss_one (ps_set (i := 1) nd rfl (.inl rfl) (pe_op op_mod (pe_callTy call_int1 (by rfl) M.int boot_tInt (pa_cons (pe_op op_add (pe_op op_add (pe_op op_mul (pv 1) pe_int) (pe_op op_mul (pe_op op_mod (pe_callTy call_int1 (by rfl) M.int boot_tInt (pa_cons (pv 2) pa_nil)) pe_int) pe_int)) pe_int) pa_nil)) pe_int))))
      (pss_one (ps_ret (pe_lst (pa_cons (pv 0) (pa_cons pe_int (pa_cons (pe_op op_mul (pv 1) (pe_callTy call_int1 (by rfl) M.int boot_tInt (pa_cons (pe_cmpR op_gt (pe_callB call_len_seq (by rfl) M.len boot_len (pa_cons (pv 0) pa_nil)) pe_int (nomark _)) pa_nil))) (pa_cons pe_int pa_nil)))))))), ?_⟩
    refine ⟨_, rfl, sc, rfl, ⟨_, hsc⟩, for_it walk_list (fun i σ H1 => H1 = H ∧ ∃ (z : Int) (v2 : Option V), σ = [some (.ref sc), some (.int z), v2]) ⟨rfl, _, none, rfl⟩ (fun i σ H1 _ ⟨e, _⟩ => e ▸ hsc) ?_ ?_⟩
    · rintro i y σ H1 H2 hi ⟨rfl, z, v2, rfl⟩ ⟨e, hy⟩
      subst e
      obtain ⟨cell, hcell, rfl⟩ : ∃ t, ns[i]? = some t ∧ y = V.int t := by
        rw [List.getElem?_map] at hy
        obtain ⟨t, z1, z2⟩ := Option.map_eq_some_iff.mp hy
        exact ⟨t, z1, z2.symm⟩
      refine ⟨_, rfl, _, _, rfl, rfl, .inr ⟨by decide, by decide⟩, _, rfl, .inl ⟨_, rfl, _, _, rfl, rfl, (show (0 : Int) < 2147483647 by decide), _, _, rfl, rfl, .inr ⟨by decide, by decide⟩, _, _, rfl, rfl, _, _, rfl, rfl, .inl ⟨_, rfl, _, _, rfl, rfl, (show (0 : Int) < 2147483647 by decide), ?_⟩⟩⟩
      exact ⟨rfl, _, _, rfl⟩
    · rintro σ H1 ⟨rfl, z, v2, rfl⟩
      refine ⟨_, rfl, _, rfl, _, rfl, sc, _, rfl, .inl hsc, _, _, rfl, rfl, .inr ⟨_, rfl, _, _, rfl, rfl, .inr ?_, by show 4 ≤ sizeLine; decide, fun r hr0 => ?_⟩⟩
      · split <;> decide
      · refine k _ r (fun b o e => by rw [upd_ne (ne_of_none e hr0)]; exact e) hr0 ⟨⟨0, _, 0, upd_same⟩, fun H' k' => ?_⟩
        rcases hsc with (e | ⟨o, e⟩) | e
        · exact .inl (.inl (k' _ _ (by rw [upd_ne (ne_of_none e hr0)]; exact e) (ne_of_none e hr0)))
        · exact .inl (.inr ⟨o, k' _ _ (by rw [upd_ne (ne_of_none e hr0)]; exact e) (ne_of_none e hr0)⟩)
        · exact .inr e
end
end Sl

set_option Elab.async false
set_option linter.all false
set_option maxRecDepth 100000
set_option maxHeartbeats 1000000
namespace Sl
open PySem PySem.Spec L2 OwnR LamX
/-! ### a list of new tuples -/
def TupsAt (H : Hp) (a : Addr) (vss : List (List V)) : Prop := ∃ ts : List Addr, H a = some (.lst (ts.map V.ref)) ∧ ts.length = vss.length ∧ ∀ (i : Nat) (t : Addr) (v : List V), ts[i]? = some t → vss[i]? = some v → H t = some (.tup v)
theorem tups_push {H : Hp} {a : Addr} {ts : List Addr} {vss : List (List V)} (h1 : H a = some (.lst (ts.map V.ref))) (h2 : ts.length = vss.length) (h3 : ∀ (i : Nat) (t : Addr) (v : List V), ts[i]? = some t → vss[i]? = some v → H t = some (.tup v)) {t : Addr} (ht : H t = none) (v : List V) :
    TupsAt (upd (upd H t (.tup v)) a (.lst (ts.map V.ref ++ [.ref t]))) a (vss ++ [v]) := by
  have nat : a ≠ t := ne_of_none h1 ht
  refine ⟨ts ++ [t], by rw [upd_same, List.map_append]; rfl, by rw [List.length_append, List.length_append, h2]; rfl, fun i b s e1 e2 => ?_⟩
  rcases snoc_get e1 with e1 | ⟨hi2, rfl⟩
  · have hlt := (List.getElem?_eq_some_iff.mp e1).1
    rw [List.getElem?_append_left (by rw [← h2]; exact hlt)] at e2
    have q := h3 i b s e1 e2
    rw [upd_ne (ne_of q h1 (by intro z; cases z)), upd_ne (ne_of_none q ht)]
    exact q
  · rcases snoc_get e2 with e2 | ⟨_, rfl⟩
    · have := (List.getElem?_eq_some_iff.mp e2).1
      omega
    · rw [upd_ne nat.symm, upd_same]
theorem TupsAt.keep {H H' : Hp} {r a : Addr} {vss : List (List V)} {xs : List V} (h : TupsAt H a vss) (k : KeepB r H H') (n : a ≠ r) (hr : H r = some (.lst xs)) : TupsAt H' a vss := by
  obtain ⟨ts, h1, h2, h3⟩ := h
  exact ⟨ts, k _ _ h1 n, h2, fun i t v e1 e2 => k _ _ (h3 i t v e1 e2) (ne_of (h3 i t v e1 e2) hr (by intro z; cases z))⟩
theorem TupsAt.same {H H' : Hp} {a : Addr} {vss : List (List V)} (h : TupsAt H a vss) (k : Same H H') : TupsAt H' a vss := by
  obtain ⟨ts, h1, h2, h3⟩ := h
  exact ⟨ts, k _ _ h1, h2, fun i t v e1 e2 => k _ _ (h3 i t v e1 e2)⟩
theorem tups_nil {H : Hp} {a : Addr} (h : H a = some (.lst [])) : TupsAt H a [] := ⟨[], h, rfl, fun i t v e => by simp at e⟩
theorem TupsAt.runs {H : Hp} {a : Addr} {secs : List Sec} (h : TupsAt H a (secs.map secV)) : RunsAt H a secs := by
  obtain ⟨ts, h1, h2, h3⟩ := h
  exact ⟨ts, h1, by rw [h2, List.length_map], fun i t s e1 e2 => h3 i t (secV s) e1 (by rw [List.getElem?_map, e2]; rfl)⟩
section
variable {P : Program} {w : World} {K : PySem.W.Frag} {mg : Str → Option Value} {base : Heap}
theorem RowAt.lst {H : Hp} {r sc : Addr} {ns : List Int} (R : RowAt K H r sc ns) : ∃ xs, H r = some (.lst xs) := let ⟨_, _, _, h⟩ := R.at_; ⟨_, h⟩
theorem RowAt.old {H : Hp} {r sc : Addr} {ns : List Int} (R : RowAt K H r sc ns) {l : Addr} (hl : H l = none) : l ≠ r := fun z => by
  obtain ⟨xs, h⟩ := R.lst
  rw [z, h] at hl
  cases hl
/-! ### _law_pick -/
def spPick (K : PySem.W.Frag) : Sp := fun vs H Q _ => ∃ (r sc : Addr) (ns : List Int) (s : Addr) (xs : List V), vs = [.ref r, .ref s] ∧ H s = some (.lst xs) ∧ 1 ≤ xs.length ∧ xs.length ≤ 1000 ∧ s ≠ r ∧ RowAt K H r sc ns ∧
  ∀ H' (q : Nat) (v : V), KeepB r H H' → RowAt K H' r sc ns → xs[q]? = some v → Q v H'
def nPick : List Str := ["_law_d", "_law_some"]
theorem scPick : FnScope nPick ["_law_d", "_law_some"] (defScope sPick) := ⟨rfl, rfl, rfl, by decide +kernel, rfl, by decide +kernel, by decide +kernel⟩
theorem ok_pick {f fN : Addr} {fd dN : FuncData} (F : Fun K "_law_pick" "_law_pick" sPick f fd) (M : Mg mg) (BN : Fb K mg "_law_next" sNext ["_law_dice_here", "_law_many"] fN dN)
    (GN : FnOk P w K mg base CX0 1 fN dN ["_law_dice_here", "_law_many"] (spNext K)) : FnOk P w K mg base CX0 2 f fd ["_law_d", "_law_some"] (spPick K) := by
  refine F.ok scPick (fun vs H Q E h => ?_) (fun cdv A outer s H vs Q E hr h => ?_)
  · obtain ⟨r, sc, ns, s, xs, rfl, _⟩ := h
    rfl
  · obtain ⟨r, sc, ns, sa, xs, rfl, hs, h1, h1000, nsr, R0, k⟩ := h
    refine ⟨_, pss_one (ps_ret (pe_ix ix_list (pv 1) (pe_call GN hr (by rfl) BN.at_ BN.fn.kp BN.bd .nil pass0 (pa_cons (pv 0) (pa_cons (pe_callB call_len_seq (by rfl) M.len boot_len (pa_cons (pv 1) pa_nil)) pa_nil))) (fun _ _ => rfl))), ?_⟩
    refine ⟨_, rfl, _, rfl, _, rfl, sa, _, rfl, .inl (SqL.of hs), r, sc, ns, xs.length, rfl, h1, h1000, R0, fun H1 q k1 R1 hq => ?_⟩
    obtain ⟨v, hv⟩ : ∃ v, xs[q]? = some v := ⟨_, List.getElem?_eq_getElem hq⟩
    exact ⟨sa, xs, _, v, rfl, rfl, SqL.of (k1 _ _ hs nsr), atI_nat hv, k H1 q v k1 R1 hv⟩
/-! ### _law_parts -/
def spParts (K : PySem.W.Frag) : Sp := fun vs H Q _ => ∃ (r sc : Addr) (ns : List Int) (m n : Nat), vs = [.ref r, .int (m : Nat), .int (n : Nat)] ∧ 1 ≤ m ∧ m ≤ 12 ∧ 1 ≤ n ∧ n ≤ 99 ∧ RowAt K H r sc ns ∧
  ∀ H' L secs, KeepB r H H' → RowAt K H' r sc ns → H L = none → L ≠ r → RunsAt H' L secs → 1 ≤ secs.length → secs.length ≤ m → (∀ s ∈ secs, 1 ≤ s.2 ∧ s.2 ≤ n) → Q (.ref L) H'
def nParts : List Str := ["_law_d", "_law_most", "_law_long", "_law_found", "_law_k"]
theorem scParts : FnScope nParts ["_law_d", "_law_most", "_law_long"] (defScope sParts) := ⟨rfl, rfl, rfl, by decide +kernel, rfl, by decide +kernel, by decide +kernel⟩
theorem ok_parts {f fN fP : Addr} {fd dN dP : FuncData} (F : Fun K "_law_parts" "_law_parts" sParts f fd) (M : Mg mg) (BN : Fb K mg "_law_next" sNext ["_law_dice_here", "_law_many"] fN dN)
    (GN : FnOk P w K mg base CX0 1 fN dN ["_law_dice_here", "_law_many"] (spNext K)) (BP : Fb K mg "_law_pick" sPick ["_law_d", "_law_some"] fP dP) (GP : FnOk P w K mg base CX0 2 fP dP ["_law_d", "_law_some"] (spPick K)) :
    FnOk P w K mg base CX0 3 f fd ["_law_d", "_law_most", "_law_long"] (spParts K) := by
  refine F.ok scParts (fun vs H Q E h => ?_) (fun cdv A outer s H vs Q E hr h => ?_)
  · obtain ⟨r, sc, ns, m, n, rfl, _⟩ := h
    rfl
  · obtain ⟨r, sc, ns, m, n, rfl, m1, m12, n1, n99, R0, k⟩ := h
    have nd := scParts.nd
    have hr1 : Room 1 (A.deeper (PyProof.Rows.envOfC "_law_parts" (defScope sParts) s.heap.objs.size f cdv)) := hr.mono (by decide)
    refine ⟨_, pss_cons (ps_set (i := 3) nd rfl (.inl rfl) (pe_lst pa_nil))
      (pss_cons (ps_for PassesOwn.never rfl (pi_range1 (by rfl) M.range (pa_cons (pe_op op_add pe_int (pe_call GN hr1 (by rfl) BN.at_ BN.fn.kp BN.bd .nil pass0 (pa_cons (pv 0) (pa_cons (pv 1) pa_nil)))) pa_nil)) (pg_name (i := 4) nd rfl (.inl rfl))
        (pss_one (ps_expr (pe_bm PySem.F.plainAttrs_list PySem.F.slot_list_append PySem.F.type_list_append mt_append (pv 3) (pa_cons (pe_tup (pa_cons (pe_call GP hr (by rfl) BP.at_ BP.fn.kp BP.bd .nil pass0 (pa_cons (pv 0) (pa_cons (pe_lst (pa_cons pe_str (pa_cons pe_str (pa_cons pe_str pa_nil)))) pa_nil)))
          (pa_cons (pe_op op_add pe_int (pe_call GN hr1 (by rfl) BN.at_ BN.fn.kp BN.bd .nil pass0 (pa_cons (pv 0) (pa_cons (pv 2) pa_nil)))) pa_nil))) pa_nil)))))
      (pss_one (ps_ret (pv 3)))), ?_⟩
    refine ⟨Nat.zero_le _, fun L hL => ?_⟩
    have nLr := R0.old hL
    have S0 : Same H (upd H L (.lst [])) := fun b o e => by rw [upd_ne (ne_of_none e hL)]; exact e
    refine ⟨_, rfl, _, rfl, r, sc, ns, m, rfl, m1, by omega, R0.same S0, fun H1 q k1 R1 hq => ?_⟩
    have hL1 : H1 L = some (.lst []) := k1 _ _ upd_same nLr
    refine ⟨_, _, rfl, rfl, (1 + ((q : Nat) : Int)), rfl, by omega, by omega, ?_⟩
    have en : (1 + ((q : Nat) : Int)).toNat = q + 1 := by omega
    rw [en]
    refine for_it walk_range (fun i σ H2 => ∃ (secs : List Sec) (v4 : Option V), σ = [some (.ref r), some (.int ((m : Nat) : Int)), some (.int ((n : Nat) : Int)), some (.ref L), v4] ∧ KeepB r H H2 ∧ RowAt K H2 r sc ns ∧ TupsAt H2 L (secs.map secV) ∧ secs.length = i ∧ ∀ s ∈ secs, 1 ≤ s.2 ∧ s.2 ≤ n)
      ⟨[], none, rfl, (KeepB.of S0).trans k1, R1, tups_nil hL1, rfl, fun s hs => nomatch hs⟩ (fun _ _ _ _ _ => True.intro) ?_ ?_
    · rintro i x σ H2 H3 hi ⟨secs, v4, rfl, k2, R2, T2, hlen, hd⟩ ⟨e, ex⟩
      have ex2 : x = V.int ((i : Nat) : Int) := by
        rw [ex]
        show V.int (0 + ((i : Nat) : Int)) = _
        rw [Int.zero_add]
      clear ex
      subst e ex2
      obtain ⟨ts, t1, t2, t3⟩ := id T2
      refine ⟨_, rfl, .inl ⟨rfl, _, SqL.of t1⟩, _, rfl, by show 3 ≤ sizeLine; decide, fun l hl => ?_⟩
      have s4 : Same H3 (upd H3 l (.lst [.str "narrow", .str "narrow", .str "wide"])) := fun b o e => by rw [upd_ne (ne_of_none e hl)]; exact e
      refine ⟨r, sc, ns, l, _, rfl, upd_same, by show 1 ≤ 3; decide, by show 3 ≤ 1000; decide, R2.old hl, R2.same s4, fun H5 q5 v5 k5 R5 hv5 => ?_⟩
      obtain ⟨b, rfl⟩ : ∃ b, v5 = V.str (kindS b) := by
        match q5, hv5 with
        | 0, h => exact ⟨false, (Option.some.inj h).symm⟩
        | 1, h => exact ⟨false, (Option.some.inj h).symm⟩
        | 2, h => exact ⟨true, (Option.some.inj h).symm⟩
      obtain ⟨x4, hx4⟩ := (R2.same s4).lst
      have T5 := (T2.same s4).keep k5 nLr hx4
      refine ⟨_, rfl, _, rfl, r, sc, ns, n, rfl, n1, by omega, R5, fun H6 q6 k6 R6 hq6 => ?_⟩
      obtain ⟨x5, hx5⟩ := R5.lst
      obtain ⟨ts6, z1, z2, z3⟩ := T5.keep k6 nLr hx5
      refine ⟨_, _, rfl, rfl, by show 2 ≤ sizeLine; decide, fun t ht => ?_⟩
      have nLt : L ≠ t := ne_of_none z1 ht
      refine ⟨L, _, .ref t, rfl, rfl, by rw [upd_ne nLt]; exact z1, by rw [List.length_map, z2, List.length_map, hlen]; exact small1000 (by omega), ?_⟩
      have k26 : KeepB r H H6 := k2.trans ((KeepB.of s4).trans (k5.trans k6))
      have hup : Same H6 (upd H6 t (.tup [.str (kindS b), .int (1 + ((q6 : Nat) : Int))])) := fun b o e => by rw [upd_ne (ne_of_none e ht)]; exact e
      have kfin : KeepB r H (upd (upd H6 t (.tup [.str (kindS b), .int (1 + ((q6 : Nat) : Int))])) L (.lst (ts6.map V.ref ++ [.ref t]))) := fun b o e n => by
        rw [upd_ne (ne_of_none e hL)]
        exact hup _ _ (k26 _ _ e n)
      refine ⟨secs ++ [(b, q6 + 1)], _, rfl, kfin, ⟨?_, fun H' k' => R0.scr H' (kfin.trans k')⟩, ?_, by rw [List.length_append, hlen]; rfl, fun s hs => ?_⟩
      · obtain ⟨a, b, c, h⟩ := R6.at_
        exact ⟨a, b, c, by rw [upd_ne nLr.symm]; exact hup _ _ h⟩
      · have := tups_push z1 z2 z3 ht [.str (kindS b), .int (1 + ((q6 : Nat) : Int))]
        rw [List.map_append]
        have e1 : (1 + ((q6 : Nat) : Int)) = (((q6 + 1 : Nat)) : Int) := by omega
        have e2 : secV (b, q6 + 1) = [V.str (kindS b), V.int (1 + ((q6 : Nat) : Int))] := by
          unfold secV
          rw [e1]
        show TupsAt _ L (_ ++ [secV (b, q6 + 1)])
        rw [e2]
        exact this
      · rcases List.mem_append.mp hs with hs | hs
        · exact hd s hs
        · rw [List.mem_singleton.mp hs]
          exact ⟨by show 1 ≤ q6 + 1; omega, by show q6 + 1 ≤ n; omega⟩
    · rintro σ H2 ⟨secs, v4, rfl, k2, R2, T2, hlen, hd⟩
      exact ⟨_, rfl, k H2 L secs k2 R2 hL nLr T2.runs (by omega) (by omega) hd⟩
end
end Sl

set_option Elab.async false
set_option linter.all false
set_option maxRecDepth 100000
set_option maxHeartbeats 1000000
namespace Sl
open PySem PySem.Spec L2 OwnR LamX
/-! ### random cars -/
def wordsL : List Str := ["ann", "bob", "cy", "dan", "eve", "flo", "gus", "hal", "ida", "jo"]
theorem words_nd : wordsL.Nodup := by decide +kernel
def nameB (z : Str) : Bool := decide (1 ≤ z.length) && decide (z.length ≤ 8) && z.cps.toList.all fun c => decide (97 ≤ c) && decide (c ≤ 122)
theorem name_of {z : Str} (h : nameB z = true) : NameOk z := by
  unfold nameB at h
  simp only [Bool.and_eq_true, decide_eq_true_eq, List.all_eq_true] at h
  exact ⟨h.1.1, h.1.2, h.2⟩
theorem words_ok : ∀ z ∈ wordsL, NameOk z := fun z hz => name_of (List.all_eq_true.mp (by decide +kernel : wordsL.all nameB = true) z hz)
structure DrawnW (j : Nat) (sp pc : Nat) (c : Car) : Prop where
  nm : wordsL[j]? = some c.name
  s0 : 0 ≤ c.start
  s1 : c.start ≤ sp
  p0 : 1 ≤ c.pace
  p1 : c.pace ≤ pc
theorem drawnW_ok {cars : List Car} {sp pc : Nat} (hl : cars.length ≤ 10) (hs : sp ≤ 1000000) (hp : pc ≤ 60) (h : ∀ j c, cars[j]? = some c → DrawnW j sp pc c) : CarsOk cars := by
  refine ⟨fun c hc => ?_, ?_, hl⟩
  · obtain ⟨j, hj⟩ := List.mem_iff_getElem?.mp hc
    have d := h j c hj
    exact ⟨words_ok _ (List.mem_of_getElem? d.nm), d.s0, by have := d.s1; omega, d.p0, by have := d.p1; omega⟩
  · have e : cars.map (·.name) = wordsL.take cars.length := by
      apply List.ext_getElem?
      intro i
      rw [List.getElem?_map]
      by_cases hi : i < cars.length
      · have e := List.getElem?_eq_getElem hi
        rw [List.getElem?_take_of_lt hi, e]
        exact (h i _ e).nm.symm
      · rw [List.getElem?_eq_none (by omega), List.getElem?_eq_none (by rw [List.length_take]; omega)]
        rfl
    rw [e]
    exact words_nd.sublist (List.take_sublist _ _)
section
variable {P : Program} {w : World} {K : PySem.W.Frag} {mg : Str → Option Value} {base : Heap}
def spCars (K : PySem.W.Frag) : Sp := fun vs H Q _ => ∃ (r sc : Addr) (ns : List Int) (m sp pc : Nat), vs = [.ref r, .int (m : Nat), .int (sp : Nat), .int (pc : Nat)] ∧ m ≤ 10 ∧ sp ≤ 900 ∧ 1 ≤ pc ∧ pc ≤ 60 ∧ RowAt K H r sc ns ∧
  ∀ H' L cars, KeepB r H H' → RowAt K H' r sc ns → H L = none → L ≠ r → TupsAt H' L (cars.map Car.vs) → CarsOk cars → cars.length ≤ m → (∀ c ∈ cars, c.name ∈ wordsL) → Q (.ref L) H'
def nCars : List Str := ["_law_d", "_law_most", "_law_span", "_law_paces", "_law_words", "_law_found", "_law_k"]
theorem scCars : FnScope nCars ["_law_d", "_law_most", "_law_span", "_law_paces"] (defScope sCars) := ⟨rfl, rfl, rfl, by decide +kernel, rfl, by decide +kernel, by decide +kernel⟩
theorem ok_cars {f fN : Addr} {fd dN : FuncData} (F : Fun K "_law_cars" "_law_cars" sCars f fd) (M : Mg mg) (BN : Fb K mg "_law_next" sNext ["_law_dice_here", "_law_many"] fN dN)
    (GN : FnOk P w K mg base CX0 1 fN dN ["_law_dice_here", "_law_many"] (spNext K)) : FnOk P w K mg base CX0 2 f fd ["_law_d", "_law_most", "_law_span", "_law_paces"] (spCars K) := by
  refine F.ok scCars (fun vs H Q E h => ?_) (fun cdv A outer s H vs Q E hr h => ?_)
  · obtain ⟨r, sc, ns, m, sp, pc, rfl, _⟩ := h
    rfl
  · obtain ⟨r, sc, ns, m, sp, pc, rfl, m10, sp900, pc1, pc60, R0, k⟩ := h
    have nd := scCars.nd
    refine ⟨_, pss_cons (ps_set (i := 4) nd rfl (.inl rfl) (pe_lst (pa_cons pe_str (pa_cons pe_str (pa_cons pe_str (pa_cons pe_str (pa_cons pe_str (pa_cons pe_str (pa_cons pe_str (pa_cons pe_str (pa_cons pe_str (pa_cons pe_str pa_nil))))))))))))
      (pss_cons (ps_set (i := 5) nd rfl (.inl rfl) (pe_lst pa_nil))
      (pss_cons (ps_for PassesOwn.never rfl (pi_range1 (by rfl) M.range (pa_cons (pe_call GN hr (by rfl) BN.at_ BN.fn.kp BN.bd .nil pass0 (pa_cons (pv 0) (pa_cons (pe_op op_add (pv 1) pe_int) pa_nil))) pa_nil)) (pg_name (i := 6) nd rfl (.inl rfl))
        (pss_one (ps_expr (pe_bm PySem.F.plainAttrs_list PySem.F.slot_list_append PySem.F.type_list_append mt_append (pv 5) (pa_cons (pe_tup (pa_cons (pe_ix ix_list (pv 4) (pv 6) (fun _ _ => rfl))
          (pa_cons (pe_call GN hr (by rfl) BN.at_ BN.fn.kp BN.bd .nil pass0 (pa_cons (pv 0) (pa_cons (pe_op op_add pe_int (pv 2)) pa_nil)))
          (pa_cons (pe_op op_add pe_int (pe_call GN hr (by rfl) BN.at_ BN.fn.kp BN.bd .nil pass0 (pa_cons (pv 0) (pa_cons (pv 3) pa_nil)))) pa_nil)))) pa_nil)))))
      (pss_one (ps_ret (pv 5))))), ?_⟩
    refine ⟨by show 10 ≤ sizeLine; decide, fun W hW => ?_⟩
    have nWr := R0.old hW
    have SW : Same H (upd H W (.lst (wordsL.map V.str))) := fun b o e => by rw [upd_ne (ne_of_none e hW)]; exact e
    have hWw : upd H W (.lst (wordsL.map V.str)) W = some (.lst (wordsL.map V.str)) := upd_same
    show tSeq _ _ _ _ (upd H W (.lst (wordsL.map V.str)))
    generalize upd H W (.lst (wordsL.map V.str)) = Hw at SW hWw ⊢
    have Rw := R0.same SW
    refine ⟨Nat.zero_le _, fun L hL => ?_⟩
    have nLr := Rw.old hL
    have nWL : W ≠ L := ne_of_none hWw hL
    have hLH : H L = none := by
      cases e : H L with
      | none => rfl
      | some o =>
        rw [SW _ _ e] at hL
        cases hL
    have S0 : Same Hw (upd Hw L (.lst [])) := fun b o e => by rw [upd_ne (ne_of_none e hL)]; exact e
    refine ⟨_, rfl, _, rfl, _, _, rfl, rfl, r, sc, ns, m + 1, rfl, by omega, by omega, Rw.same S0, fun H1 q k1 R1 hq => ?_⟩
    have hL1 : H1 L = some (.lst []) := k1 _ _ upd_same nLr
    have hW1 : H1 W = some (.lst (wordsL.map V.str)) := k1 _ _ (S0 _ _ hWw) nWr
    refine ⟨_, rfl, by omega, by omega, ?_⟩
    rw [Int.toNat_natCast]
    refine for_it walk_range (fun i σ H2 => ∃ (cars : List Car) (v6 : Option V), σ = [some (.ref r), some (.int ((m : Nat) : Int)), some (.int ((sp : Nat) : Int)), some (.int ((pc : Nat) : Int)), some (.ref W), some (.ref L), v6] ∧ KeepB r H H2 ∧ RowAt K H2 r sc ns ∧ H2 W = some (.lst (wordsL.map V.str)) ∧ TupsAt H2 L (cars.map Car.vs) ∧ cars.length = i ∧ ∀ j c, cars[j]? = some c → DrawnW j sp pc c)
      ⟨[], none, rfl, (KeepB.of (SW.trans S0)).trans k1, R1, hW1, tups_nil hL1, rfl, fun j c e => by simp at e⟩ (fun _ _ _ _ _ => True.intro) ?_ ?_
    · rintro i x σ H2 H3 hi ⟨cars, v6, rfl, k2, R2, hW2, T2, hlen, hd⟩ ⟨e, ex⟩
      have ex2 : x = V.int ((i : Nat) : Int) := by
        rw [ex]
        show V.int (0 + ((i : Nat) : Int)) = _
        rw [Int.zero_add]
      clear ex
      subst e ex2
      have hi10 : i < 10 := by omega
      obtain ⟨wd, hwd⟩ : ∃ z, wordsL[i]? = some z := ⟨_, List.getElem?_eq_getElem (by show i < 10; exact hi10)⟩
      obtain ⟨ts, t1, t2, t3⟩ := id T2
      refine ⟨_, rfl, .inl ⟨rfl, _, SqL.of t1⟩, _, rfl, _, rfl, W, _, _, .str wd, rfl, rfl, SqL.of hW2, atI_nat (map_at V.str hwd), ?_⟩
      refine ⟨_, rfl, _, rfl, _, _, rfl, rfl, r, sc, ns, sp + 1, ?_, by omega, by omega, R2, fun H6 q1 k6 R6 hq1 => ?_⟩
      · show [V.ref r, V.int (1 + ((sp : Nat) : Int))] = [V.ref r, V.int (((sp + 1 : Nat)) : Int)]
        rw [show (1 + ((sp : Nat) : Int)) = (((sp + 1 : Nat)) : Int) by omega]
      obtain ⟨x5, hx5⟩ := R2.lst
      have T6 := T2.keep k6 nLr hx5
      have hW6 := k6 _ _ hW2 nWr
      refine ⟨_, rfl, _, rfl, r, sc, ns, pc, rfl, pc1, by omega, R6, fun H9 q3 k9 R9 hq3 => ?_⟩
      obtain ⟨x8, hx8⟩ := R6.lst
      have hW9 := k9 _ _ hW6 nWr
      obtain ⟨ts9, z1, z2, z3⟩ := T6.keep k9 nLr hx8
      refine ⟨_, _, rfl, rfl, by show 3 ≤ sizeLine; decide, fun t ht => ?_⟩
      have nLt : L ≠ t := ne_of_none z1 ht
      refine ⟨L, _, .ref t, rfl, rfl, by rw [upd_ne nLt]; exact z1, by rw [List.length_map, z2, List.length_map, hlen]; exact small1000 (by omega), ?_⟩
      have k29 : KeepB r H H9 := k2.trans (k6.trans k9)
      have hup : Same H9 (upd H9 t (.tup [.str wd, .int ((q1 : Nat) : Int), .int (1 + ((q3 : Nat) : Int))])) := fun b o e => by rw [upd_ne (ne_of_none e ht)]; exact e
      have kfin : KeepB r H (upd (upd H9 t (.tup [.str wd, .int ((q1 : Nat) : Int), .int (1 + ((q3 : Nat) : Int))])) L (.lst (ts9.map V.ref ++ [.ref t]))) := fun b o e n => by
        rw [upd_ne (ne_of_none e hLH)]
        exact hup _ _ (k29 _ _ e n)
      refine ⟨cars ++ [⟨wd, ((q1 : Nat) : Int), 1 + ((q3 : Nat) : Int)⟩], _, rfl, kfin, ⟨?_, fun H' k' => R0.scr H' (kfin.trans k')⟩, ?_, ?_, by rw [List.length_append, hlen]; rfl, fun j c e => ?_⟩
      · obtain ⟨a, b, c, h⟩ := R9.at_
        exact ⟨a, b, c, by rw [upd_ne nLr.symm]; exact hup _ _ h⟩
      · rw [upd_ne nWL]
        exact hup _ _ hW9
      · have := tups_push z1 z2 z3 ht [.str wd, .int ((q1 : Nat) : Int), .int (1 + ((q3 : Nat) : Int))]
        rw [List.map_append]
        exact this
      · rcases snoc_get e with e | ⟨hj, rfl⟩
        · exact hd j c e
        · rw [hlen] at hj
          subst hj
          exact ⟨hwd, by show (0 : Int) ≤ ((q1 : Nat) : Int); omega, by show ((q1 : Nat) : Int) ≤ ((sp : Nat) : Int); omega, by show (1 : Int) ≤ 1 + ((q3 : Nat) : Int); omega, by show 1 + ((q3 : Nat) : Int) ≤ ((pc : Nat) : Int); omega⟩
    · rintro σ H2 ⟨cars, v6, rfl, k2, R2, hW2, T2, hlen, hd⟩
      exact ⟨_, rfl, k H2 L cars k2 R2 hLH nLr T2 (drawnW_ok (by omega) (by omega) pc60 hd) (by omega) (fun c hc => by
        obtain ⟨j, hj⟩ := List.mem_iff_getElem?.mp hc
        exact List.mem_of_getElem? (hd j c hj).nm)⟩
end
end Sl

set_option Elab.async false
set_option linter.all false
set_option maxRecDepth 100000
set_option maxHeartbeats 1000000
namespace Sl
open PySem PySem.Spec L2 OwnR LamX
/-- what isinstance(x, Road) asks of an instance -/
structure IsRoad (K : PySem.W.Frag) (C : Addr) : Prop where
  ha : PySem.W.findIn K (.ref C) "__class__" = some (some (.builtin "object.__class__"))
  hn : PySem.W.specialIn K (.builtin "object.__class__") "__get__" = some (some (.builtin "getset_descriptor.__get__"))
  htk : PySem.W.takesIn K (.builtin "object.__class__") = some true
  hm : PySem.W.mroIn K C (.type "object") = some true
  kit : PySem.W.kitOne K (.ref C) (.ref C) = some true
theorem unitsL_app (a b : List Sec) : unitsL (a ++ b) = unitsL a ++ unitsL b := by unfold unitsL; rw [List.flatMap_append]
section
variable {P : Program} {w : World} {K : PySem.W.Frag} {mg : Str → Option Value} {base : Heap}
/-! ### road + road -/
def spRAdd (C : Addr) : Sp := fun vs H Q _ => ∃ (a b : Addr) (s1 s2 : List Sec), vs = [.ref a, .ref b] ∧ RoadAt C H a s1 ∧ RoadAt C H b s2 ∧ s1 ≠ [] ∧ s2 ≠ [] ∧ SecsOk (s1 ++ s2) ∧ ∀ H' p, Same H H' → H p = none → RoadAt C H' p (s1 ++ s2) → Q (.ref p) H'
def nRAdd : List Str := ["self", "other", "sections"]
theorem scRAdd : FnScope nRAdd ["self", "other"] (defScope sRAdd) := ⟨rfl, rfl, rfl, by decide +kernel, rfl, by decide +kernel, by decide +kernel⟩
theorem ok_rAdd {f fI C lp kp : Addr} {fd : FuncData} (F : Fun K "__add__" "Road.__add__" sRAdd f fd) (M : Mg mg) (R : RoadT K w mg C lp kp) (IR : IsRoad K C) (MK : Mk K C fI)
    (GI : FnR P w K mg base CX0 3 fI (spRInit C)) : FnOk P w K mg base CX0 5 f fd ["self", "other"] (spRAdd C) := by
  refine F.ok scRAdd (fun vs H Q E h => ?_) (fun cdv A outer s H vs Q E hr h => ?_)
  · obtain ⟨a, b, s1, s2, rfl, _⟩ := h
    rfl
  · obtain ⟨a, b, s1, s2, rfl, ⟨ax, at_, au, a1, ⟨ta, a2, a3, a4⟩, a5⟩, ⟨bx, bt, bu, b1, ⟨tb, b2, b3, b4⟩, b5⟩, n1, n2, S, k⟩ := h
    have nd := scRAdd.nd
    refine ⟨_, pss_cons (ps_if (pt_not (pt_val (pe_callB call_isi (by rfl) M.isinstance boot_isinstance (pa_cons (pv 1) (pa_cons (pe_glob (v := .ref C) (by rfl) R.mgC rfl) pa_nil))))) (pss_one ps_never) pss_nil)
      (pss_cons (ps_set (i := 2) nd rfl (.inl rfl) (pe_op op_catT (pe_fld (pv 0) rfl) (pe_fld (pv 1) rfl)))
      (pss_one (ps_ret (pe_makeGS MK GI hr pass0 (by rfl) R.mgC (pv 2))))), ?_⟩
    refine ⟨_, rfl, _, _, _, _, true, rfl, .own _, .base (.ins b1 R.cl IR.ha IR.hn IR.htk IR.hm), IR.kit, true, rfl, iteF ?_⟩
    have la : (ta.map V.ref).length = s1.length := by rw [List.length_map, a3]
    have lb : (tb.map V.ref).length = s2.length := by rw [List.length_map, b3]
    have few := S.few
    rw [List.length_append] at few
    refine ⟨_, rfl, a, C, ax, _, _, rfl, a1, R.cl, R.nS, rf_sections _ _, _, rfl, b, C, bx, _, _, rfl, b1, R.cl, R.nS, rf_sections _ _, at_, bt, _, _, rfl, rfl, SqT.of a2, SqT.of b2, fun z => ?_, by rw [la, lb]; exact Nat.le_of_lt (small1000 (by omega)), fun z => ?_, fun _ q hq => ?_⟩
    · have := congrArg List.length z
      rw [la] at this
      exact n1 (List.length_eq_zero_iff.mp this)
    · have := congrArg List.length z
      rw [lb] at this
      exact absurd (List.length_eq_zero_iff.mp this) n2
    have eAB : ta.map V.ref ++ tb.map V.ref = (ta ++ tb).map V.ref := by rw [List.map_append]
    have Sq : Same H (upd H q (.tup (ta.map V.ref ++ tb.map V.ref))) := fun b o e => by rw [upd_ne (ne_of_none e hq)]; exact e
    have hq1 : upd H q (.tup (ta.map V.ref ++ tb.map V.ref)) q = some (.tup (ta.map V.ref ++ tb.map V.ref)) := upd_same
    have hel : ∀ (i : Nat) (t : Addr) (s : Sec), (ta ++ tb)[i]? = some t → (s1 ++ s2)[i]? = some s → H t = some (.tup (secV s)) := fun i t s e1 e2 => by
      rcases Nat.lt_or_ge i ta.length with lt | ge
      · rw [List.getElem?_append_left lt] at e1
        rw [List.getElem?_append_left (by rw [← a3]; exact lt)] at e2
        exact a4 i t s e1 e2
      · rw [List.getElem?_append_right ge] at e1
        rw [List.getElem?_append_right (by rw [← a3]; exact ge), ← a3] at e2
        exact b4 _ t s e1 e2
    generalize upd H q (.tup (ta.map V.ref ++ tb.map V.ref)) = H1 at Sq hq1 ⊢
    refine ⟨rfl, _, rfl, q, ta.map V.ref ++ tb.map V.ref, rfl, .inl (SqT.of hq1), fun x dx hx hdx ne => ?_⟩
    refine ⟨[.ref x], ta.map V.ref ++ tb.map V.ref, rfl, rfl, by rw [List.length_append, la, lb]; exact Nat.le_of_lt (small1000 (by omega)), fun t ht => ?_⟩
    have hxt : x ≠ t := fun z => by
      rw [← z, upd_same] at ht
      cases ht
    have old : ∀ b o, H1 b = some o → (upd (upd (upd H1 dx (.own x)) x (.ins C dx [])) t (.tup (ta.map V.ref ++ tb.map V.ref))) b = some o := fun b o e => by
      have e2 : (upd (upd H1 dx (.own x)) x (.ins C dx [])) b = some o := by
        rw [upd_ne (ne_of_none e hx), upd_ne (ne_of_none e hdx)]
        exact e
      rw [upd_ne (ne_of_none e2 ht)]
      exact e2
    refine ⟨x, dx, t, s1 ++ s2, rfl, by rw [upd_ne hxt, upd_same], ⟨ta ++ tb, by rw [upd_same, eAB], by rw [List.length_append, List.length_append, a3, b3], fun i a s e1 e2 => old _ _ (Sq _ _ (hel i a s e1 e2))⟩, S, fun H2 us kp hX hus => ⟨rfl, ?_⟩⟩
    refine k H2 x (fun b o e => kp b o (old _ _ (Sq _ _ e)) (ne_of_none (Sq _ _ e) hx)) ?_ ⟨dx, t, us, hX, ⟨ta ++ tb, ?_, by rw [List.length_append, List.length_append, a3, b3], fun i a s e1 e2 => ?_⟩, hus⟩
    · cases q' : H x with
      | none => rfl
      | some o =>
        rw [Sq _ _ q'] at hx
        cases hx
    · rw [← eAB]
      exact kp _ _ upd_same hxt.symm
    · have q := Sq _ _ (hel i a s e1 e2)
      exact kp _ _ (old _ _ q) (ne_of_none q hx)
end
end Sl

set_option Elab.async false
set_option linter.all false
set_option maxRecDepth 100000
set_option maxHeartbeats 1000000
namespace Sl
open PySem PySem.Spec L2 OwnR LamX
/-! ### _law_made: a road put together from its sections, one by one -/
theorem make_one {C x dx t : Addr} {H : Hp} {s : Sec} {E : XK} {G : Hp → Prop} (ht : H t = some (.tup (secV s))) (s1 : 1 ≤ s.2) (s2 : s.2 ≤ 99) (hx : H x = none) (hdx : H dx = none) (ne : dx ≠ x)
    (k : ∀ H', Same H H' → RoadAt C H' x [s] → G H') : spRInit C [.ref x, .ref t] (upd (upd H dx (.own x)) x (.ins C dx [])) (fun v H2 => v = .non ∧ G H2) E := by
  refine ⟨[.ref x], [.ref t], rfl, rfl, by show 1 ≤ sizeLine; decide, fun p hp => ?_⟩
  have hxp : x ≠ p := fun z => by
    rw [← z, upd_same] at hp
    cases hp
  have old : ∀ b o, H b = some o → (upd (upd (upd H dx (.own x)) x (.ins C dx [])) p (.tup [.ref t])) b = some o := fun b o e => by
    have e2 : (upd (upd H dx (.own x)) x (.ins C dx [])) b = some o := by
      rw [upd_ne (ne_of_none e hx), upd_ne (ne_of_none e hdx)]
      exact e
    rw [upd_ne (ne_of_none e2 hp)]
    exact e2
  have el : ∀ {H9 : Hp} (i : Nat) (a : Addr) (s' : Sec), H9 t = some (.tup (secV s)) → [t][i]? = some a → [s][i]? = some s' → H9 a = some (.tup (secV s')) := fun i a s' h e1 e2 => by
    match i, e1, e2 with
    | 0, e1, e2 =>
      cases Option.some.inj e1
      cases Option.some.inj e2
      exact h
  refine ⟨x, dx, p, [s], rfl, by rw [upd_ne hxp, upd_same], ⟨[t], by rw [upd_same]; rfl, rfl, fun i a s' e1 e2 => el i a s' (old _ _ ht) e1 e2⟩, ⟨by simp, by simp, fun q hq => by rw [List.mem_singleton.mp hq]; exact ⟨s1, s2⟩⟩, fun H2 us kp hX hus => ⟨rfl, ?_⟩⟩
  refine k H2 (fun b o e => kp b o (old _ _ e) (ne_of_none e hx)) ⟨dx, p, us, hX, ⟨[t], kp _ _ upd_same hxp.symm, rfl, fun i a s' e1 e2 => el i a s' (kp _ _ (old _ _ ht) (ne_of_none ht hx)) e1 e2⟩, hus⟩
section
variable {P : Program} {w : World} {K : PySem.W.Frag} {mg : Str → Option Value} {base : Heap}
def spMade (C : Addr) : Sp := fun vs H Q _ => ∃ (l : Addr) (secs : List Sec), vs = [.ref l] ∧ RunsAt H l secs ∧ SecsOk secs ∧ ∀ H' p, Same H H' → H p = none → RoadAt C H' p secs → Q (.ref p) H'
def nMade : List Str := ["_law_parts_here", "_law_road", "_law_part"]
theorem scMade : FnScope nMade ["_law_parts_here"] (defScope sMade) := ⟨rfl, rfl, rfl, by decide +kernel, rfl, by decide +kernel, by decide +kernel⟩
theorem ok_made {f fI fA C lp kp : Addr} {fd dA : FuncData} {ds : List Value} {dvs : List V} (F : Fun K "_law_made" "_law_made" sMade f fd) (M : Mg mg) (R : RoadT K w mg C lp kp) (MK : Mk K C fI)
    (GI : FnR P w K mg base CX0 3 fI (spRInit C)) (hc : PySem.W.selfFirst K C = true) (hs : PySem.W.findIn K (.ref C) (PySem.dunder (Operator.info .Add).2) = some (some (.ref fA))) (hf : PySem.W.isFn K (.ref fA) = true)
    (GA : FnR P w K mg base CX0 5 fA (spRAdd C)) : FnOk P w K mg base CX0 6 f fd ["_law_parts_here"] (spMade C) := by
  refine F.ok scMade (fun vs H Q E h => ?_) (fun cdv A outer s H vs Q E hr h => ?_)
  · obtain ⟨l, secs, rfl, _⟩ := h
    rfl
  · obtain ⟨l, secs, rfl, ⟨ts, a1, a2, a3⟩, S, k⟩ := h
    have nd := scMade.nd
    have hr4 : Room 4 (A.deeper (PyProof.Rows.envOfC "_law_made" (defScope sMade) s.heap.objs.size f cdv)) := hr.mono (by decide)
    refine ⟨_, pss_cons (ps_set (i := 1) nd rfl (.inl rfl) (StX.pe_makeR MK GI hr4 (by rfl) R.mgC pass0 (pa_cons (pe_ix ix_list (pv 0) pe_int (fun _ _ => rfl)) pa_nil)))
      (pss_cons (ps_for PassesOwn.never rfl (pi_list (pe_slice sl_list (pv 0) (po_some pe_int) po_none)) (pg_name (i := 2) nd rfl (.inl rfl))
        (pss_one (ps_set (i := 1) nd rfl (.inl rfl) (pe_op (op_addO hc hs hf GA hr pass0) (pv 1) (StX.pe_makeR MK GI hr4 (by rfl) R.mgC pass0 (pa_cons (pv 2) pa_nil))))))
      (pss_one (ps_ret (pv 1)))), ?_⟩
    have l1 : 1 ≤ secs.length := by
      cases h : secs with
      | nil => exact absurd h S.ne
      | cons _ _ => simp
    have ltk : ∀ j, 1 ≤ j → secs.take j ≠ [] := fun j hj h => by
      have := congrArg List.length h
      rw [List.length_take, List.length_nil] at this
      omega
    obtain ⟨s0, hs0⟩ : ∃ s, secs[0]? = some s := ⟨_, List.getElem?_eq_getElem (by omega)⟩
    obtain ⟨t0, ht0⟩ : ∃ t, ts[0]? = some t := ⟨_, List.getElem?_eq_getElem (by omega)⟩
    have ok0 := S.len s0 (List.mem_of_getElem? hs0)
    have tk1 : secs.take 1 = [s0] := by
      cases secs with
      | nil => simp at hs0
      | cons a r => cases Option.some.inj hs0; rfl
    refine ⟨_, rfl, l, _, (((0 : Nat) : Nat) : Int), .ref t0, rfl, rfl, SqL.of a1, atI_nat (map_at V.ref ht0), fun x dx hx hdx ne => make_one (a3 0 t0 s0 ht0 hs0) ok0.1 ok0.2 hx hdx ne fun H1 S1 R1 => ?_⟩
    refine ⟨_, rfl, 1, rfl, l, _, rfl, SqL.of (S1 _ _ a1), fun z hz => ?_⟩
    have hcut : cutV (ts.map V.ref) (some (1 : Int)) none = (ts.drop 1).map V.ref := by
      have := cut_from (l := ts.map V.ref) (k := 1) (by rw [List.length_map]; omega)
      rw [List.map_drop]
      exact this
    rw [hcut]
    have S2 : Same H1 (upd H1 z (.lst ((ts.drop 1).map V.ref))) := fun b o e => by rw [upd_ne (ne_of_none e hz)]; exact e
    refine ⟨z, rfl, ⟨_, SqL.of upd_same⟩, ?_⟩
    refine for_it walk_list (fun i σ H3 => ∃ (p : Addr) (v2 : Option V), σ = [some (.ref l), some (.ref p), v2] ∧ Same H H3 ∧ H3 z = some (.lst ((ts.drop 1).map V.ref)) ∧ H p = none ∧ RoadAt C H3 p (secs.take (i + 1)))
      ⟨x, none, rfl, S1.trans S2, upd_same, hx, by rw [tk1]; exact R1.ext (ExtN.same S2)⟩ (fun i σ H3 _ ⟨_, _, _, _, h, _⟩ => SqL.of h) ?_ ?_
    · rintro i y σ H3 H4 hi ⟨p, v2, rfl, S3, hz3, hp, R3⟩ ⟨e, hy⟩
      subst e
      obtain ⟨t, ht, rfl⟩ : ∃ t, ts[i + 1]? = some t ∧ y = V.ref t := by
        rw [List.getElem?_map, List.getElem?_drop] at hy
        obtain ⟨t, z1, z2⟩ := Option.map_eq_some_iff.mp hy
        exact ⟨t, by rw [Nat.add_comm]; exact z1, z2.symm⟩
      have hlt := (List.getElem?_eq_some_iff.mp ht).1
      obtain ⟨sc, hsc⟩ : ∃ s, secs[i + 1]? = some s := ⟨_, List.getElem?_eq_getElem (by omega)⟩
      have okc := S.len sc (List.mem_of_getElem? hsc)
      have tk : secs.take (i + 1 + 1) = secs.take (i + 1) ++ [sc] := by rw [List.take_succ, hsc]; rfl
      refine ⟨_, rfl, _, rfl, fun x2 dx2 hx2 hdx2 ne2 => make_one (S3 _ _ (a3 (i + 1) t sc ht hsc)) okc.1 okc.2 hx2 hdx2 ne2 fun H5 S5 R5 => ?_⟩
      have R4 : RoadAt C H5 p (secs.take (i + 1)) := R3.ext (ExtN.same S5)
      obtain ⟨pd, pt, pu, p1, _⟩ := id R4
      obtain ⟨qd, qt, qu, q1, _⟩ := id R5
      refine ⟨p, pd, _, x2, qd, _, rfl, rfl, p1, q1, p, x2, secs.take (i + 1), [sc], rfl, R4, R5, ltk _ (by omega), by simp, ?_, fun H6 p6 S6 hp6 R6 => ?_⟩
      · rw [← tk]
        exact ⟨ltk _ (by omega), Nat.le_trans (List.length_take_le' _ _) S.few, fun q hq => S.len q (List.mem_of_mem_take hq)⟩
      · refine ⟨p6, _, rfl, S3.trans (S5.trans S6), S6 _ _ (S5 _ _ hz3), ?_, by rw [tk]; exact R6⟩
        cases q : H p6 with
        | none => rfl
        | some o =>
          rw [S5 _ _ (S3 _ _ q)] at hp6
          cases hp6
    · rintro σ H3 ⟨p, v2, rfl, S3, hz3, hp, R3⟩
      refine ⟨_, rfl, k H3 p S3 hp ?_⟩
      have e : secs.take (((ts.drop 1).map V.ref).length + 1) = secs := by
        rw [List.length_map, List.length_drop]
        exact List.take_of_length_le (by omega)
      rw [e] at R3
      exact R3
end
end Sl

set_option Elab.async false
set_option linter.all false
set_option maxRecDepth 100000
set_option maxHeartbeats 1000000
namespace OwnR
open PySem PySem.Spec PyProof.Rows L2
/-! ### two dicts of equal data -/
def SameD (K : PySem.W.Frag) (H : Hp) (x y : V) : Prop := ∃ d, Dp K H x d ∧ Dp K H y d ∧ d.canLay0 = true ∧ d.depth ≤ 8
def rEqDD (K : PySem.W.Frag) : R2 := fun x y H Q => ∃ a b ks ls, x = .ref a ∧ y = .ref b ∧ H a = some (.dK ks) ∧ H b = some (.dK ls) ∧ ks.length = ls.length ∧ (∀ p ∈ ks, ∃ u, valV ls p.1 = some u ∧ SameD K H p.2 u) ∧ Q (.bl true) H
theorem op_eqDD {X : Cx} (hu : X.A.units + 64 < cLine) : OpR X (compareOp .Eq) (rEqDD X.K) := by
  intro pins s σ H x y v u Q I rx ry h
  obtain ⟨a, b, ks, ls, rfl, rfl, ha, hb, hl, hp, q⟩ := h
  cases (show v = Value.ref a from rx)
  cases (show u = Value.ref b from ry)
  obtain ⟨_, ya, va, ra, da⟩ := (show ObjOk X.prog X.w H s.heap a (.dK ks) from I.hok a _ ha)
  obtain ⟨_, yb, vb, rb, db⟩ := (show ObjOk X.prog X.w H s.heap b (.dK ls) from I.hok b _ hb)
  have ih : ∀ x y v u, SameD X.K H x y → RelV x v → RelV y u → SeqAt.EqP X.prog X.w X.A.in1 s v u true := fun x y v u h rx ry => by
    obtain ⟨d, h1, h2, h3, h4⟩ := h
    obtain ⟨as, r1⟩ := Dp.reads I d x v h1 rx
    obtain ⟨bs, r2⟩ := Dp.reads I d y u h2 ry
    have := SeqAt.eqAt_reads d d X.A.in1 s v u as bs r1 r2 h3 h3 (by show X.A.units + 1 + min d.depth d.depth < cLine; rw [Nat.min_self]; omega)
    rw [SeqAt.eqv_refl d h3] at this
    exact this.eqP
  have key : ∀ (E Q : Value → Shared → Prop), Q (.bool true) s → wpAny (model X.prog X.w) X.A (richCompare .Eq (.ref a) (.ref b)) Q E s := fun E Q hq => by
    refine PySem.W.rcP_dicts (knd := mixKind X.prog X.w) (r := true) ya yb da db (by omega) (fun _ => hits_run ih rb ra hp) E Q ?_
    have e : va.length = vb.length := by rw [← ra.length, ← rb.length]; exact hl
    rw [show (va.length == vb.length && true) = true from by rw [e]; simp]
    exact hq
  exact key _ _ ⟨.bl true, H, I, rfl, q⟩
end OwnR

set_option Elab.async false
set_option linter.all false
set_option maxRecDepth 100000
set_option maxHeartbeats 1000000
namespace Sl
open PySem PySem.Spec L2 OwnR LamX
theorem boot_tList : bootBuiltins "list" = some (.type "list") := by decide +kernel
section
variable {P : Program} {w : World} {K : PySem.W.Frag} {mg : Str → Option Value} {base : Heap}
/-! ### _law_like, of what holds nothing in order -/
def LeafT (t : String) : Prop := t = "int" ∨ t = "str" ∨ t = "dict" ∨ t = "NoneType"
theorem LeafT.notTup {t : String} (h : LeafT t) : kitB t "tuple" = some false := by
  rcases h with h | h | h | h <;> subst h <;> decide +kernel
theorem LeafT.notList {t : String} (h : LeafT t) : kitB t "list" = some false := by
  rcases h with h | h | h | h <;> subst h <;> decide +kernel
theorem LeafT.notBool {t : String} (h : LeafT t) : kitB t "bool" = some false := by
  rcases h with h | h | h | h <;> subst h <;> decide +kernel
theorem LeafT.isInt {t : String} (h : LeafT t) : ∃ b, kitB t "int" = some b := by
  rcases h with h | h | h | h <;> subst h
  · exact ⟨true, by decide +kernel⟩
  · exact ⟨false, by decide +kernel⟩
  · exact ⟨false, by decide +kernel⟩
  · exact ⟨false, by decide +kernel⟩
theorem LeafT.isStr {t : String} (h : LeafT t) : ∃ b, kitB t "str" = some b := by
  rcases h with h | h | h | h <;> subst h
  · exact ⟨false, by decide +kernel⟩
  · exact ⟨true, by decide +kernel⟩
  · exact ⟨false, by decide +kernel⟩
  · exact ⟨false, by decide +kernel⟩
theorem ne_bl (b : Bool) : V.bl (!decide (V.bl b = V.bl b)) = V.bl false := by rw [decide_eq_true rfl]; rfl
def spLike0 (K : PySem.W.Frag) : Sp := fun vs H Q _ => ∃ (x y : V) (t : String), vs = [x, y] ∧ LeafT t ∧ TyOf K H x (.type t) ∧ TyOf K H y (.type t) ∧ (rEqD K x y H Q ∨ rEqDA x y H Q ∨ rEqDD K x y H Q)
def nLike : List Str := ["_law_found", "_law_due", "_law_k"]
theorem scLike : FnScope nLike ["_law_found", "_law_due"] (defScope sLike) := ⟨rfl, rfl, rfl, by decide +kernel, rfl, by decide +kernel, by decide +kernel⟩
theorem ok_like0 {f : Addr} {fd : FuncData} (F : Fun K "_law_like" "_law_like" sLike f fd) (M : Mg mg) : FnOk P w K mg base CX0 1 f fd ["_law_found", "_law_due"] (spLike0 K) := by
  refine F.ok scLike (fun vs H Q E h => ?_) (fun cdv A outer s H vs Q E hr h => ?_)
  · obtain ⟨x, y, t, rfl, _⟩ := h
    rfl
  · obtain ⟨x, y, t, rfl, lt, tx, ty, q⟩ := h
    have nd := scLike.nd
    have hu64 : (A.deeper (PyProof.Rows.envOfC "_law_like" (defScope sLike) s.heap.objs.size f cdv)).units + 64 < cLine := hr.units
    refine ⟨_, pss_cons (ps_if (PW.pt (pw_or (pt_val (pe_callB call_isi (by rfl) M.isinstance boot_isinstance (pa_cons (pv 1) (pa_cons (pe_bltn (v := .ty "tuple") (by rfl) M.tuple boot_tTuple rfl) pa_nil))))
        (pw_or1 (pt_val (pe_callB call_isi (by rfl) M.isinstance boot_isinstance (pa_cons (pv 1) (pa_cons (pe_bltn (v := .ty "list") (by rfl) M.list boot_tList rfl) pa_nil))))))) (pss_cons ps_never (pss_cons ps_never (pss_one ps_never))) pss_nil)
      (pss_cons (ps_if (pt_cmpR op_ne (pe_callB call_isi (by rfl) M.isinstance boot_isinstance (pa_cons (pv 0) (pa_cons (pe_bltn (v := .ty "bool") (by rfl) M.bool boot_tBool rfl) pa_nil))) (pe_callB call_isi (by rfl) M.isinstance boot_isinstance (pa_cons (pv 1) (pa_cons (pe_bltn (v := .ty "bool") (by rfl) M.bool boot_tBool rfl) pa_nil))) (nomark _)) (pss_one ps_never) pss_nil)
      (pss_cons (ps_if (PW.pt (pw_or (pt_cmpR op_ne (pe_callB call_isi (by rfl) M.isinstance boot_isinstance (pa_cons (pv 0) (pa_cons (pe_bltn (v := .ty "int") (by rfl) M.int boot_tInt rfl) pa_nil))) (pe_callB call_isi (by rfl) M.isinstance boot_isinstance (pa_cons (pv 1) (pa_cons (pe_bltn (v := .ty "int") (by rfl) M.int boot_tInt rfl) pa_nil))) (nomark _))
        (pw_or1 (pt_cmpR op_ne (pe_callB call_isi (by rfl) M.isinstance boot_isinstance (pa_cons (pv 0) (pa_cons (pe_bltn (v := .ty "str") (by rfl) M.str boot_tStr rfl) pa_nil))) (pe_callB call_isi (by rfl) M.isinstance boot_isinstance (pa_cons (pv 1) (pa_cons (pe_bltn (v := .ty "str") (by rfl) M.str boot_tStr rfl) pa_nil))) (nomark _))))) (pss_one ps_never) pss_nil)
      (pss_one (ps_ret (pe_cmpR ((op_eqD hu64).or ((op_eq_dictA (Nat.lt_of_le_of_lt (Nat.le_add_right _ 64) hu64)).or (op_eqDD hu64))) (pv 0) (pv 1) (nomark _)))))), ?_⟩
    obtain ⟨bi, hbi⟩ := lt.isInt
    obtain ⟨bs, hbs⟩ := lt.isStr
    refine ⟨_, rfl, _, _, _, _, false, rfl, .ty _, .base ty, kit_ty lt.notTup, false, rfl, iteF ?_⟩
    refine ⟨_, rfl, _, _, _, _, false, rfl, .ty _, .base ty, kit_ty lt.notList, false, rfl, iteF ?_⟩
    refine ⟨_, rfl, _, _, _, _, false, rfl, .ty _, .base tx, kit_ty lt.notBool, _, rfl, _, _, _, _, false, rfl, .ty _, .base ty, kit_ty lt.notBool, rfl, false, ne_bl _, iteF ?_⟩
    refine ⟨_, rfl, _, _, _, _, bi, rfl, .ty _, .base tx, kit_ty hbi, _, rfl, _, _, _, _, bi, rfl, .ty _, .base ty, kit_ty hbi, rfl, false, ne_bl _, iteF ?_⟩
    refine ⟨_, rfl, _, _, _, _, bs, rfl, .ty _, .base tx, kit_ty hbs, _, rfl, _, _, _, _, bs, rfl, .ty _, .base ty, kit_ty hbs, rfl, false, ne_bl _, iteF ?_⟩
    exact ⟨_, rfl, _, rfl, q⟩
end
end Sl

set_option Elab.async false
set_option linter.all false
set_option maxRecDepth 100000
set_option maxHeartbeats 1000000
namespace Sl
open PySem PySem.Spec L2 OwnR LamX
section
variable {P : Program} {w : World} {K : PySem.W.Frag} {mg : Str → Option Value} {base : Heap}
/-! ### _law_like, of tuples and lists whose items are alike -/
def SeqK (H : Hp) (t : String) (a : Addr) (xs : List V) : Prop := (t = "tuple" ∧ H a = some (.tup xs)) ∨ (t = "list" ∧ H a = some (.lst xs))
theorem SeqK.ty {H : Hp} {t : String} {a : Addr} {xs : List V} (h : SeqK H t a xs) : TyOf K H (.ref a) (.type t) := by
  rcases h with ⟨rfl, h⟩ | ⟨rfl, h⟩
  · exact .tup h
  · exact .lst h
theorem SeqK.seq {H : Hp} {t : String} {a : Addr} {xs : List V} (h : SeqK H t a xs) : SqL K H a xs ∨ SqT K H a xs := by
  rcases h with ⟨rfl, h⟩ | ⟨rfl, h⟩
  · exact .inr (SqT.of h)
  · exact .inl (SqL.of h)
theorem SeqK.same {H H' : Hp} {t : String} {a : Addr} {xs : List V} (h : SeqK H t a xs) (e : Same H H') : SeqK H' t a xs := by
  rcases h with ⟨rfl, h⟩ | ⟨rfl, h⟩
  · exact .inl ⟨rfl, e _ _ h⟩
  · exact .inr ⟨rfl, e _ _ h⟩
theorem SeqK.ix {H : Hp} {t : String} {a : Addr} {xs : List V} {i : Nat} {v : V} {Q : VK} (h : SeqK H t a xs) (e : xs[i]? = some v) (q : Q v H) : rIx K (.ref a) (.int (i : Nat)) H Q := by
  rcases h with ⟨rfl, h⟩ | ⟨rfl, h⟩
  · exact .inr (.inl ⟨a, xs, _, v, rfl, rfl, SqT.of h, atI_nat e, q⟩)
  · exact .inl ⟨a, xs, _, v, rfl, rfl, SqL.of h, atI_nat e, q⟩
theorem SeqK.t {H : Hp} {t : String} {a : Addr} {xs : List V} (h : SeqK H t a xs) : t = "tuple" ∨ t = "list" := by
  rcases h with ⟨h, _⟩ | ⟨h, _⟩
  · exact .inl h
  · exact .inr h
def spLikeS (spE : Sp) : Sp := fun vs H Q _ => ∃ (a b : Addr) (t : String) (xs ys : List V), vs = [.ref a, .ref b] ∧ SeqK H t a xs ∧ SeqK H t b ys ∧ xs.length = ys.length ∧ ys.length ≤ 1000 ∧
  (∀ H', Same H H' → ∀ (i : Nat) (x y : V), xs[i]? = some x → ys[i]? = some y → ∀ Q' : VK, (∀ H'', Same H' H'' → Q' (.bl true) H'') → spE [x, y] H' Q' E0) ∧ ∀ H', Same H H' → Q (.bl true) H'
theorem ok_likeS {f : Addr} {fd : FuncData} {n : Nat} {spE : Sp} (B : Fb K mg "_law_like" sLike ["_law_found", "_law_due"] f fd) (M : Mg mg) (GE : FnOk P w K mg base CX0 n f fd ["_law_found", "_law_due"] spE) :
    FnOk P w K mg base CX0 (n + 1) f fd ["_law_found", "_law_due"] (spLikeS spE) := by
  refine B.fn.ok scLike (fun vs H Q E h => ?_) (fun cdv A outer s H vs Q E hr h => ?_)
  · obtain ⟨a, b, t, xs, ys, rfl, _⟩ := h
    rfl
  · obtain ⟨a, b, t, xs, ys, rfl, ha, hb, el, l1000, hE, k⟩ := h
    have nd := scLike.nd
    have hu64 : (A.deeper (PyProof.Rows.envOfC "_law_like" (defScope sLike) s.heap.objs.size f cdv)).units + 64 < cLine := hr.units
    refine ⟨_, pss_cons (ps_if (PW.pt (pw_or (pt_val (pe_callB call_isi (by rfl) M.isinstance boot_isinstance (pa_cons (pv 1) (pa_cons (pe_bltn (v := .ty "tuple") (by rfl) M.tuple boot_tTuple rfl) pa_nil))))
        (pw_or1 (pt_val (pe_callB call_isi (by rfl) M.isinstance boot_isinstance (pa_cons (pv 1) (pa_cons (pe_bltn (v := .ty "list") (by rfl) M.list boot_tList rfl) pa_nil)))))))
        (pss_cons (ps_if (pt_cmpR op_ne (pe_callB call_isi (by rfl) M.isinstance boot_isinstance (pa_cons (pv 0) (pa_cons (pe_bltn (v := .ty "tuple") (by rfl) M.tuple boot_tTuple rfl) pa_nil))) (pe_callB call_isi (by rfl) M.isinstance boot_isinstance (pa_cons (pv 1) (pa_cons (pe_bltn (v := .ty "tuple") (by rfl) M.tuple boot_tTuple rfl) pa_nil))) (nomark _)) (pss_one ps_never) pss_nil)
        (pss_cons (ps_if (PW.pt (pw_or (pt_cmpR op_ne (pe_callB call_isi (by rfl) M.isinstance boot_isinstance (pa_cons (pv 0) (pa_cons (pe_bltn (v := .ty "list") (by rfl) M.list boot_tList rfl) pa_nil))) (pe_callB call_isi (by rfl) M.isinstance boot_isinstance (pa_cons (pv 1) (pa_cons (pe_bltn (v := .ty "list") (by rfl) M.list boot_tList rfl) pa_nil))) (nomark _))
          (pw_or1 (pt_cmpR op_ne (pe_callB call_len_seq (by rfl) M.len boot_len (pa_cons (pv 0) pa_nil)) (pe_callB call_len_seq (by rfl) M.len boot_len (pa_cons (pv 1) pa_nil)) (nomark _))))) (pss_one ps_never) pss_nil)
        (pss_one (ps_ret (pe_cmpR (op_eqD hu64) (pe_lc (own := [("_law_k", 2)]) (g := gName 2) (tt := tNot (tB (tCall spE [] E0 (tCons (tOp (rIx K) (tVar 0) (tVar 2)) (tCons (tOp (rIx K) (tVar 1) (tVar 2)) tNil))))) (te := tVar 2) (by rfl) nd (pi_range1 (by rfl) M.range (pa_cons (pe_callB call_len_seq (by rfl) M.len boot_len (pa_cons (pv 1) pa_nil)) pa_nil)) (blkOk_by (N := nLike) (sc := defScope sLike) (by decide +kernel))
            (fun _ _ _ _ _ => pg_name (i := 2) nd rfl (Or.inl rfl)) (fun _ _ _ _ _ => pts_one (pt_not (pt_val (pe_call GE hr (by rfl) B.at_ B.fn.kp B.bd .nil pass0 (pa_cons (pe_ix (r := rIx K) ix_seq (pv 0) (pv 2) (fun _ _ => rfl)) (pa_cons (pe_ix (r := rIx K) ix_seq (pv 1) (pv 2) (fun _ _ => rfl)) pa_nil)))))) (fun _ _ _ _ _ => pv 2)) (pe_lst pa_nil) (nomark _)))))) pss_nil)
      (pss_cons ps_never (pss_cons ps_never (pss_one ps_never))), ?_⟩
    obtain ⟨bT, hbT⟩ : ∃ b, kitB t "tuple" = some b := by
      rcases hb.t with h | h <;> subst h
      · exact ⟨true, by decide +kernel⟩
      · exact ⟨false, by decide +kernel⟩
    obtain ⟨bL, hbL⟩ : ∃ b, kitB t "list" = some b := by
      rcases hb.t with h | h <;> subst h
      · exact ⟨false, by decide +kernel⟩
      · exact ⟨true, by decide +kernel⟩
    have head : kitB t "tuple" = some true ∨ (kitB t "tuple" = some false ∧ kitB t "list" = some true) := by
      rcases hb.t with h | h <;> subst h
      · exact .inl (by decide +kernel)
      · exact .inr ⟨by decide +kernel, by decide +kernel⟩
    rcases head with h1 | ⟨h1, h2⟩
    refine ⟨_, rfl, _, _, _, _, true, rfl, .ty _, .base hb.ty, kit_ty h1, true, rfl, iteT (iteT ?_)⟩
    rotate_left
    refine ⟨_, rfl, _, _, _, _, false, rfl, .ty _, .base hb.ty, kit_ty h1, false, rfl, iteF ⟨_, rfl, _, _, _, _, true, rfl, .ty _, .base hb.ty, kit_ty h2, true, rfl, iteT ?_⟩⟩
    rotate_left
    all_goals
      refine ⟨_, rfl, _, _, _, _, bT, rfl, .ty _, .base ha.ty, kit_ty hbT, _, rfl, _, _, _, _, bT, rfl, .ty _, .base hb.ty, kit_ty hbT, rfl, false, ne_bl _, iteF ?_⟩
      refine ⟨_, rfl, _, _, _, _, bL, rfl, .ty _, .base ha.ty, kit_ty hbL, _, rfl, _, _, _, _, bL, rfl, .ty _, .base hb.ty, kit_ty hbL, rfl, false, ne_bl _, iteF ?_⟩
      refine ⟨_, rfl, a, xs, rfl, ha.seq, _, rfl, b, ys, rfl, hb.seq, rfl, false, by rw [el, decide_eq_true rfl]; rfl, iteF ?_⟩
      refine ⟨_, rfl, b, ys, rfl, hb.seq, ((ys.length : Nat) : Int), rfl, by omega, by omega, fun D hD => ?_⟩
      rw [Int.toNat_natCast]
      refine lc_it walk_range (fun i H1 => Same H H1 ∧ H1 D = some (.lst []))
        ⟨fun p o e => by rw [upd_ne (ne_of_none e hD)]; exact e, upd_same⟩ (fun _ _ _ _ => True.intro) ?_ ?_
      · rintro i z H1 H2 hi ⟨k1, hD1⟩ ⟨e, ez⟩
        have ez2 : z = V.int ((i : Nat) : Int) := by
          rw [ez]
          show V.int (0 + ((i : Nat) : Int)) = _
          rw [Int.zero_add]
        clear ez
        subst e ez2
        obtain ⟨x, hx⟩ : ∃ x, xs[i]? = some x := ⟨_, List.getElem?_eq_getElem (by omega)⟩
        obtain ⟨y, hy⟩ : ∃ x, ys[i]? = some x := ⟨_, List.getElem?_eq_getElem (by omega)⟩
        refine ⟨rfl, ?_⟩
        refine ⟨_, rfl, _, rfl, (ha.same k1).ix hx ?_⟩
        refine ⟨_, rfl, _, rfl, (hb.same k1).ix hy ?_⟩
        exact hE _ k1 i x y hx hy _ fun H3 k3 => ⟨true, rfl, iteF ⟨k1.trans k3, k3 _ _ hD1⟩⟩
      · rintro H1 ⟨k1, hD1⟩
        refine ⟨Nat.zero_le _, fun D2 hD2 => ?_⟩
        have S2 : Same H1 (upd H1 D2 (.lst [])) := fun p o e => by rw [upd_ne (ne_of_none e hD2)]; exact e
        exact ⟨.list [], .list [], .lst (SqL.of (S2 _ _ hD1)) .nil, .lst (SqL.of upd_same) .nil, rfl, rfl, k _ (k1.trans S2)⟩
end
end Sl

set_option Elab.async false
set_option linter.all false
namespace OwnR
open PySem PySem.Spec L2
/-- sorted pairs (key, index): the stable order by key -/
theorem sorted_pairs_isort {xs ys : List V} {k : V → Int × Int} (hs : SrtO.Srtd (ltP k) ys) (hb : SrtO.Stb (ltP k) ys xs) (hi : ∀ (i : Nat) (x : V), xs[i]? = some x → (k x).2 = (i : Int)) :
    ys = (isort (xs.map fun x => ((k x).1, x))).map (·.2) := by
  have hx : xs.Pairwise fun a b => (k a).2 < (k b).2 := by
    rw [List.pairwise_iff_getElem]
    intro i j h1 h2 hij
    rw [hi i _ (List.getElem?_eq_getElem h1), hi j _ (List.getElem?_eq_getElem h2)]
    omega
  have inj : ∀ a b, a ∈ xs → b ∈ xs → (k a).2 = (k b).2 → a = b := by
    intro a b ha hb e
    obtain ⟨i, h1⟩ := List.mem_iff_getElem?.mp ha
    obtain ⟨j, h2⟩ := List.mem_iff_getElem?.mp hb
    rw [hi i a h1, hi j b h2] at e
    have : i = j := by omega
    subst this
    rw [h1] at h2
    exact Option.some.inj h2
  have hy : ys.Pairwise fun a b => ¬ ((k b).1 < (k a).1 ∨ ((k b).1 = (k a).1 ∧ (k b).2 < (k a).2)) := by
    refine List.Pairwise.imp ?_ hs
    intro a b h
    exact SrtO.lexB_no.mp h
  have e : (ys.map fun x => ((k x).1, x)) = isort (xs.map fun x => ((k x).1, x)) := by
    refine isort_unique ?_ fun z => ?_
    · rw [List.pairwise_map]
      refine List.Pairwise.imp ?_ hy
      intro a b h
      show (k a).1 ≤ (k b).1
      omega
    · rw [List.filter_map, List.filter_map]
      congr 1
      refine List.Perm.eq_of_pairwise (le := fun a b => (k a).2 ≤ (k b).2) (fun a b ha hb' h1 h2 => ?_) ?_ ?_ (hb.perm.filter _)
      · exact inj a b (hb.perm.mem_iff.mp (List.mem_filter.mp ha).1) (List.mem_filter.mp hb').1 (by omega)
      · refine List.Pairwise.imp_of_mem ?_ (List.Pairwise.sublist List.filter_sublist hy)
        intro a b ha hb' h
        have h1 : (k a).1 = z := by simpa using (List.mem_filter.mp ha).2
        have h2 : (k b).1 = z := by simpa using (List.mem_filter.mp hb').2
        omega
      · refine List.Pairwise.imp ?_ (List.Pairwise.sublist List.filter_sublist hx)
        intro a b h
        omega
  rw [← e, List.map_map]
  exact (List.map_id _).symm
end OwnR

set_option Elab.async false
set_option linter.all false
set_option maxRecDepth 100000
set_option maxHeartbeats 1000000
namespace Sl
open PySem PySem.Spec L2 OwnR LamX
theorem boot_max : bootBuiltins "max" = some (.builtin "max") := by decide +kernel
theorem boot_sortedB : bootBuiltins "sorted" = some (.builtin "sorted") := by decide +kernel
section
variable {P : Program} {w : World} {K : PySem.W.Frag} {mg : Str → Option Value} {base : Heap}
/-! ### _law_section -/
def nSection : List Str := ["_law_kind", "_law_length", "_law_entries", "_law_own", "_law_leaders", "_law_exits", "_law_order", "_law_tops", "_law_k", "_law_free", "_law_name", "_law_tick", "_law_pace", "_law_j"]
theorem scSection : FnScope nSection ["_law_kind", "_law_length", "_law_entries"] (defScope sSection) := ⟨rfl, rfl, rfl, by decide +kernel, rfl, by decide +kernel, by decide +kernel⟩
/-- (name, tick, pace) -/
abbrev Ent : Type := Str × Int × Int
def entV (e : Ent) : List V := [.str e.1, .int e.2.1, .int e.2.2]
def ownT (n : Nat) (e : Ent) : Int := e.2.1 + e.2.2 * (n : Int)
def pairK (H : Hp) (v : V) : Int × Int := match v with
  | .ref t => match H t with
    | some (.tup [.int a, .int b]) => (a, b)
    | _ => (0, 0)
  | _ => (0, 0)
theorem pairK_of {H : Hp} {t : Addr} {a b : Int} (h : H t = some (.tup [.int a, .int b])) : pairK H (.ref t) = (a, b) := by
  unfold pairK
  simp only [h]
def outW (n : Nat) (es : List Ent) : List Ent := (sortBy (ownT n) es).map fun e => (e.1, ownT n e, e.2.2)
def topL (n : Nat) (es : List Ent) (j : Nat) : Int := ((es.take j).map (ownT n)).foldl max 0
theorem foldl_max (l : List Int) : ∀ a : Int, l.foldl max a ∈ a :: l ∧ ∀ y ∈ a :: l, y ≤ l.foldl max a := by
  induction l with
  | nil => intro a; exact ⟨by simp, fun y hy => by rw [List.mem_singleton.mp hy]; exact Int.le_refl _⟩
  | cons b r ih =>
    intro a
    obtain ⟨h1, h2⟩ := ih (max a b)
    rw [List.foldl_cons]
    refine ⟨?_, fun y hy => ?_⟩
    · rcases List.mem_cons.mp h1 with e | e
      · rw [e]
        by_cases h : a ≤ b
        · rw [Int.max_eq_right h]; simp
        · rw [Int.max_eq_left (by omega)]; simp
      · exact List.mem_cons_of_mem _ (List.mem_cons_of_mem _ e)
    · have hm := h2 (max a b) (List.mem_cons_self)
      rcases List.mem_cons.mp hy with e | e
      · rw [e]; omega
      · rcases List.mem_cons.mp e with e | e
        · rw [e]; omega
        · exact h2 y (List.mem_cons_of_mem _ e)
theorem topL_is {n : Nat} {es : List Ent} {j : Nat} {m : Int} (h1 : m ∈ (0 : Int) :: (es.take j).map (ownT n)) (h2 : ∀ y ∈ (0 : Int) :: (es.take j).map (ownT n), y ≤ m) : m = topL n es j := by
  obtain ⟨a, b⟩ := foldl_max ((es.take j).map (ownT n)) 0
  have := h2 _ a
  have := b _ h1
  unfold topL
  omega
/-- who is late has somebody in front who was not -/
theorem free_ne {n : Nat} {es : List Ent} {j : Nat} {e : Ent} (h0 : 0 ≤ ownT n e) (h : ownT n e < topL n es j) : ∃ i x, i < j ∧ es[i]? = some x ∧ topL n es i ≤ ownT n x := by
  obtain ⟨a, b⟩ := foldl_max ((es.take j).map (ownT n)) 0
  rcases List.mem_cons.mp a with z | z
  · unfold topL at h
    omega
  · obtain ⟨x, hx, e1⟩ := List.mem_map.mp z
    obtain ⟨i, hi⟩ := List.mem_iff_getElem?.mp hx
    rw [List.getElem?_take] at hi
    split at hi
    · rename_i hij
      refine ⟨i, x, hij, hi, ?_⟩
      obtain ⟨c, _⟩ := foldl_max ((es.take i).map (ownT n)) 0
      have e2 : topL n es j = ownT n x := e1.symm
      have : topL n es i ≤ topL n es j := by
        refine b _ ?_
        rcases List.mem_cons.mp c with w | w
        · show topL n es i ∈ _
          unfold topL
          rw [w]
          exact List.mem_cons_self
        · obtain ⟨y, hy, e3⟩ := List.mem_map.mp w
          refine List.mem_cons_of_mem _ (List.mem_map.mpr ⟨y, ?_, e3⟩)
          obtain ⟨q, hq⟩ := List.mem_iff_getElem?.mp hy
          rw [List.getElem?_take] at hq
          split at hq
          · exact List.mem_of_getElem? (i := q) (by rw [List.getElem?_take, if_pos (by omega)]; exact hq)
          · cases hq
      omega
    · cases hi
def outN (n : Nat) (es : List Ent) : Nat → List Ent
  | 0 => []
  | j + 1 => match es[j]? with
    | some e => outN n es j ++ [(e.1, max (ownT n e) (topL n es j), e.2.2)]
    | none => outN n es j
/-- the places of those who follow nobody -/
def frees (n : Nat) (es : List Ent) : Nat → List Nat
  | 0 => []
  | j + 1 => match es[j]? with
    | some e => if topL n es j ≤ ownT n e then frees n es j ++ [j] else frees n es j
    | none => frees n es j
def ldrX (n : Nat) (es : List Ent) (j : Nat) : Option Str := ((frees n es j).getLast?).bind fun r => (es[r]?).map (·.1)
def rowX (n : Nat) (es : List Ent) (j : Nat) (e : Ent) : RowT Str := (e.1, max (ownT n e) (topL n es j), if ownT n e < topL n es j then ldrX n es j else none)
def rowN (n : Nat) (es : List Ent) : Nat → List (RowT Str)
  | 0 => []
  | j + 1 => match es[j]? with
    | some e => rowN n es j ++ [rowX n es j e]
    | none => rowN n es j
theorem rowN_succ {n : Nat} {es : List Ent} {j : Nat} {e : Ent} (h : es[j]? = some e) : rowN n es (j + 1) = rowN n es j ++ [rowX n es j e] := by
  show (match es[j]? with
    | some e => rowN n es j ++ [rowX n es j e]
    | none => rowN n es j) = _
  rw [h]
theorem frees_succ {n : Nat} {es : List Ent} {j : Nat} {e : Ent} (h : es[j]? = some e) : frees n es (j + 1) = if topL n es j ≤ ownT n e then frees n es j ++ [j] else frees n es j := by
  show (match es[j]? with
    | some e => if topL n es j ≤ ownT n e then frees n es j ++ [j] else frees n es j
    | none => frees n es j) = _
  rw [h]
theorem rowN_names {n : Nat} {es : List Ent} : ∀ j, j ≤ es.length → (rowN n es j).map (·.1) = (es.take j).map (·.1) := by
  intro j
  induction j with
  | zero => intro _; rfl
  | succ j ih =>
    intro hj
    obtain ⟨e, he⟩ : ∃ e, es[j]? = some e := ⟨_, List.getElem?_eq_getElem (by omega)⟩
    rw [rowN_succ he, List.map_append, ih (by omega), List.take_add_one, he, List.map_append]
    rfl
theorem ents_new {es : List Ent} (nd : (es.map (·.1)).Nodup) {i : Nat} {e : Ent} (h : es[i]? = some e) : e.1 ∉ (es.take i).map (·.1) := by
  intro hm
  obtain ⟨x, hx, ex⟩ := List.mem_map.mp hm
  obtain ⟨j, hj⟩ := List.mem_iff_getElem?.mp hx
  rw [List.getElem?_take] at hj
  split at hj
  · rename_i hlt
    have a1 : (es.map (·.1))[j]? = some e.1 := by rw [List.getElem?_map, hj]; exact congrArg some ex
    have a2 : (es.map (·.1))[i]? = some e.1 := by rw [List.getElem?_map, h]; rfl
    have := nd_ix nd a1 a2
    omega
  · cases hj
theorem none_back {H H' : Hp} {p : Addr} (s : Same H H') (h : H' p = none) : H p = none := by
  cases e : H p with
  | none => rfl
  | some o =>
    rw [s _ _ e] at h
    cases h
def ldS (b : Bool) (n : Nat) (es : List Ent) (m : Str) : Option Str := if b = true then none else leadOf (rowN n es es.length) m
def outS (b : Bool) (n : Nat) (es : List Ent) : List Ent := if b = true then outW n es else outN n es es.length
def spLSec : Sp := fun vs H Q _ => ∃ (b : Bool) (n : Nat) (e : Addr) (es : List Ent), vs = [.str (kindS b), .int (n : Nat), .ref e] ∧ TupsAt H e (es.map entV) ∧ es.length ≤ 10 ∧ n ≤ 99 ∧ (∀ x ∈ es, 0 ≤ x.2.1 ∧ 0 ≤ x.2.2 ∧ x.2.2 ≤ 60) ∧ (es.map (·.1)).Nodup ∧
  ∀ H' t x l kv, Same H H' → H' t = some (.tup [.ref x, .ref l]) → TupsAt H' x ((outS b n es).map entV) → H' l = some (.dK kv) → (∀ m, valV kv (Sum.inr m : Key) = (ldS b n es m).map V.str) → H x = none → H l = none → Q (.ref t) H'
theorem ok_lsec {f : Addr} {fd : FuncData} (F : Fun K "_law_section" "_law_section" sSection f fd) (M : Mg mg) (hmx : mg "max" = none) : FnOk P w K mg base CX0 1 f fd ["_law_kind", "_law_length", "_law_entries"] spLSec := by
  refine F.ok scSection (fun vs H Q E h => ?_) (fun cdv A outer s H vs Q E hr h => ?_)
  · obtain ⟨b, n, e, es, rfl, _⟩ := h
    rfl
  · obtain ⟨b, n, ea, es, rfl, hE, l10, n99, hd, hnds, k⟩ := h
    have nd := scSection.nd
    have hc1 := hu_of hr
    refine ⟨_, pss_cons (ps_asg (pe_tup (pa_cons (pe_lc (own := [("_law_name", 10), ("_law_tick", 11), ("_law_pace", 12)]) (g := gTup K 3 (gCons (gName 10) (gCons (gName 11) (gCons (gName 12) gNil)))) (tt := tYes) (te := tOp (rI0 fun i j => .int (i + j)) (tVar 11) (tOp (rI CMul fun i j => .int (i * j)) (tVar 12) (tVar 1))) (by rfl) nd (pi_list (pv 2)) (blkOk_by (N := nSection) (sc := defScope sSection) (by decide +kernel))
          (fun _ _ _ _ _ => pg_tup rfl (pgs_cons (pg_name (i := 10) nd rfl (Or.inl rfl)) (pgs_cons (pg_name (i := 11) nd rfl (Or.inl rfl)) (pgs_cons (pg_name (i := 12) nd rfl (Or.inl rfl)) pgs_nil)))) (fun _ _ _ _ _ => pts_nil) (fun _ _ _ _ _ => pe_op op_add (pv 11) (pe_op op_mul (pv 12) (pv 1)))) (pa_cons pe_dnewK (pa_cons (pe_lst pa_nil) pa_nil)))) (pg_tup rfl (pgs_cons (pg_name (i := 3) nd rfl (.inr rfl)) (pgs_cons (pg_name (i := 4) nd rfl (.inl rfl)) (pgs_cons (pg_name (i := 5) nd rfl (.inl rfl)) pgs_nil)))))
      (pss_cons (ps_if (pt_cmpR op_eq (pv 0) pe_str (nomark _))
        (pss_cons (ps_set (i := 6) nd rfl (.inl rfl) (pe_callB cr_sortedPO (by rfl) M.sorted boot_sortedB (pa_cons (pe_lc (own := [("_law_k", 8)]) (g := gName 8) (tt := tYes) (te := tTup (tCons (tOp (rIxL K) (tVar 3) (tVar 8)) (tCons (tVar 8) tNil))) (by rfl) nd (pi_range1 (by rfl) M.range (pa_cons (pe_callB call_len_seq (by rfl) M.len boot_len (pa_cons (pv 3) pa_nil)) pa_nil)) (blkOk_by (N := nSection) (sc := defScope sSection) (by decide +kernel))
          (fun _ _ _ _ _ => pg_name (i := 8) nd rfl (Or.inl rfl)) (fun _ _ _ _ _ => pts_nil) (fun _ _ _ _ _ => pe_tup (pa_cons (pe_ix (r := rIxL K) ix_list (pv 3) (pv 8) (fun _ _ => rfl)) (pa_cons (pv 8) pa_nil)))) pa_nil)))
        (pss_one (ps_ret (pe_tup (pa_cons (pe_lc (own := [("_law_tick", 11), ("_law_k", 8)]) (g := gTup K 2 (gCons (gName 11) (gCons (gName 8) gNil))) (tt := tYes) (te := tTup (tCons (tOp (rIxT K) (tOp (rIxL K) (tVar 2) (tVar 8)) (tC (.int 0))) (tCons (tVar 11) (tCons (tOp (rIxT K) (tOp (rIxL K) (tVar 2) (tVar 8)) (tC (.int 2))) tNil)))) (by rfl) nd (pi_list (pv 6)) (blkOk_by (N := nSection) (sc := defScope sSection) (by decide +kernel))
          (fun _ _ _ _ _ => pg_tup rfl (pgs_cons (pg_name (i := 11) nd rfl (Or.inl rfl)) (pgs_cons (pg_name (i := 8) nd rfl (Or.inl rfl)) pgs_nil))) (fun _ _ _ _ _ => pts_nil) (fun _ _ _ _ _ => pe_tup (pa_cons (pe_ix (r := rIxT K) ix_tup (pe_ix (r := rIxL K) ix_list (pv 2) (pv 8) (fun _ _ => rfl)) pe_int (fun _ _ => rfl)) (pa_cons (pv 11) (pa_cons (pe_ix (r := rIxT K) ix_tup (pe_ix (r := rIxL K) ix_list (pv 2) (pv 8) (fun _ _ => rfl)) pe_int (fun _ _ => rfl)) pa_nil))))) (pa_cons pe_dnewK pa_nil)))))) pss_nil)
      (pss_cons (ps_set (i := 7) nd rfl (.inr rfl) (pe_lc (own := [("_law_k", 8)]) (g := gName 8) (tt := tYes) (te := tCB (rMax K) (tCons (tOp rCat (tLst (tCons (tC (.int 0)) tNil)) (tSl (rSlL K) (tVar 3) tNoPart (tPart (tVar 8)))) tNil)) (by rfl) nd (pi_range1 (by rfl) M.range (pa_cons (pe_callB call_len_seq (by rfl) M.len boot_len (pa_cons (pv 3) pa_nil)) pa_nil)) (blkOk_by (N := nSection) (sc := defScope sSection) (by decide +kernel))
          (fun _ _ _ _ _ => pg_name (i := 8) nd rfl (Or.inl rfl)) (fun _ _ _ _ _ => pts_nil) (fun _ _ _ _ _ => pe_callB (cr_max rfl) (by rfl) hmx boot_max (pa_cons (pe_op op_cat (pe_lst (pa_cons pe_int pa_nil)) (pe_slice sl_list (pv 3) po_none (po_some (pv 8)))) pa_nil))))
      (pss_cons (ps_for PassesOwn.never rfl (pi_range1 (by rfl) M.range (pa_cons (pe_callB call_len_seq (by rfl) M.len boot_len (pa_cons (pv 2) pa_nil)) pa_nil)) (pg_name (i := 8) nd rfl (.inl rfl))
        (pss_cons (ps_setLc (i := 9) (own := [("_law_j", 13)]) (g := gName 13) (tt := tTest (tOp (rI0 fun i j => .bl (decide (j ≤ i))) (tOp (rIxL K) (tVar 3) (tVar 13)) (tOp (rIxL K) (tVar 7) (tVar 13)))) (te := tVar 13) (by rfl) nd rfl rfl (sw_true rfl rfl rfl (by decide +kernel)) (pi_range1 (by rfl) M.range (pa_cons (pv 8) pa_nil)) (blkOk_by (N := nSection) (sc := defScope sSection) (by decide +kernel))
          (fun _ _ _ _ _ => pg_name (i := 13) nd rfl (Or.inl rfl)) (fun _ _ _ _ _ => pts_one (pt_cmpR op_ge (pe_ix (r := rIxL K) ix_list (pv 3) (pv 13) (fun _ _ => rfl)) (pe_ix (r := rIxL K) ix_list (pv 7) (pv 13) (fun _ _ => rfl)) (nomark _))) (fun _ _ _ _ _ => pv 13))
        (pss_cons (ps_if (pt_cmpR op_lt (pe_ix ix_list (pv 3) (pv 8) (fun _ _ => rfl)) (pe_ix ix_list (pv 7) (pv 8) (fun _ _ => rfl)) (nomark _))
          (pss_one (ps_dput hc1 (pv 4) (pe_ix ix_tup (pe_ix ix_list (pv 2) (pv 8) (fun _ _ => rfl)) pe_int (fun _ _ => rfl)) (pe_ix ix_tup (pe_ix ix_list (pv 2) (pe_ix ix_list (pv 9) (pe_un un_neg pe_int) (fun _ _ => rfl)) (fun _ _ => rfl)) pe_int (fun _ _ => rfl)) rfl)) pss_nil)
        (pss_one (ps_expr (pe_bm PySem.F.plainAttrs_list PySem.F.slot_list_append PySem.F.type_list_append mt_append (pv 5) (pa_cons (pe_tup (pa_cons (pe_ix ix_tup (pe_ix ix_list (pv 2) (pv 8) (fun _ _ => rfl)) pe_int (fun _ _ => rfl)) (pa_cons (pe_callB (call_max2 rfl) (by rfl) hmx boot_max (pa_cons (pe_ix ix_list (pv 3) (pv 8) (fun _ _ => rfl)) (pa_cons (pe_ix ix_list (pv 7) (pv 8) (fun _ _ => rfl)) pa_nil))) (pa_cons (pe_ix ix_tup (pe_ix ix_list (pv 2) (pv 8) (fun _ _ => rfl)) pe_int (fun _ _ => rfl)) pa_nil)))) pa_nil)))))))
      (pss_one (ps_ret (pe_tup (pa_cons (pv 5) (pa_cons (pv 4) pa_nil)))))))), ?_⟩
    obtain ⟨ts, h1, h2, h3⟩ := id hE
    refine ⟨_, rfl, ea, rfl, ⟨_, SqL.of h1⟩, fun D hD => ?_⟩
    refine lc_it walk_list (fun i H1 => Same H H1 ∧ H1 D = some (.lst (((es.take i).map (ownT n)).map V.int)))
      ⟨fun p o e => by rw [upd_ne (ne_of_none e hD)]; exact e, upd_same⟩ (fun i H1 _ ⟨k1, _⟩ => SqL.of (k1 _ _ h1)) ?_ ?_
    · rintro i z H1 H2 hi ⟨k1, hD1⟩ ⟨e, hz⟩
      subst e
      obtain ⟨t, ht, rfl⟩ : ∃ t, ts[i]? = some t ∧ z = V.ref t := by
        rw [List.getElem?_map] at hz
        obtain ⟨t, z1, z2⟩ := Option.map_eq_some_iff.mp hz
        exact ⟨t, z1, z2.symm⟩
      have hlt : i < es.length := by
        have := (List.getElem?_eq_some_iff.mp ht).1
        rw [h2, List.length_map] at this
        exact this
      obtain ⟨en, hen⟩ : ∃ x, es[i]? = some x := ⟨_, List.getElem?_eq_getElem hlt⟩
      have hen3 := h3 i t (entV en) ht (by rw [List.getElem?_map, hen]; rfl)
      refine ⟨t, entV en, rfl, SqT.of (k1 _ _ hen3), rfl, _, _, rfl, _, _, rfl, _, _, rfl, rfl, ?_⟩
      refine ⟨rfl, yes_of ?_⟩
      refine ⟨_, rfl, _, rfl, _, rfl, _, _, rfl, rfl, Or.inr ⟨by omega, by omega⟩, _, _, rfl, rfl, _, hD1, ?_, fun p o e => ?_, ?_⟩
      · rw [List.length_map, List.length_map, List.length_take]
        exact small1000 (by omega)
      · rw [upd_ne (ne_of_none e hD)]
        exact k1 _ _ e
      · rw [upd_same, List.take_succ, hen]
        simp only [List.map_append]
        rfl
    · rintro H1 ⟨k1, hD1⟩
      have hel : (ts.map V.ref).length = es.length := by rw [List.length_map, h2, List.length_map]
      rw [hel, List.take_length] at hD1
      refine fun ld hld => ⟨Nat.zero_le _, fun xd hxd => ⟨by show 3 ≤ sizeLine; decide, fun tq htq => ?_⟩⟩
      have nD := fun (p : Addr) (h : H1 p = none) => ne_of_none hD1 h
      have S2 : Same H1 (upd (upd (upd H1 ld (.dK [])) xd (.lst [])) tq (.tup [.ref D, .ref ld, .ref xd])) := fun p o e => by
        have e1 : (upd H1 ld (.dK [])) p = some o := by rw [upd_ne (ne_of_none e hld)]; exact e
        have e2 : (upd (upd H1 ld (.dK [])) xd (.lst [])) p = some o := by rw [upd_ne (ne_of_none e1 hxd)]; exact e1
        rw [upd_ne (ne_of_none e2 htq)]
        exact e2
      have q1 : upd (upd (upd H1 ld (.dK [])) xd (.lst [])) tq (.tup [.ref D, .ref ld, .ref xd]) xd = some (.lst []) := by
        rw [upd_ne (ne_of_none upd_same htq)]
        exact upd_same
      have q2 : upd (upd (upd H1 ld (.dK [])) xd (.lst [])) tq (.tup [.ref D, .ref ld, .ref xd]) ld = some (.dK []) := by
        have e1 : (upd H1 ld (.dK [])) ld = some (.dK []) := upd_same
        have e2 : (upd (upd H1 ld (.dK [])) xd (.lst [])) ld = some (.dK []) := by rw [upd_ne (ne_of_none e1 hxd)]; exact e1
        rw [upd_ne (ne_of_none e2 htq)]
        exact e2
      have q3 : upd (upd (upd H1 ld (.dK [])) xd (.lst [])) tq (.tup [.ref D, .ref ld, .ref xd]) tq = some (.tup [.ref D, .ref ld, .ref xd]) := upd_same
      have nxH : H xd = none := by
        cases q : H xd with
        | none => rfl
        | some o =>
          have e1 : (upd H1 ld (.dK [])) xd = some o := by rw [upd_ne (ne_of_none (k1 _ _ q) hld)]; exact k1 _ _ q
          rw [hxd] at e1
          cases e1
      have hlH : H ld = none := by
        cases q : H ld with
        | none => rfl
        | some o =>
          rw [k1 _ _ q] at hld
          cases hld
      have nDl : D ≠ ld := nD ld hld
      have nDx : D ≠ xd := ne_of_none (show upd H1 ld (.dK []) D = some _ from by rw [upd_ne nDl]; exact hD1) hxd
      have nlx : ld ≠ xd := ne_of_none (show upd H1 ld (.dK []) ld = some (.dK []) from upd_same) hxd
      have S3 := k1.trans S2
      have hD3 := S2 _ _ hD1
      generalize upd (upd (upd H1 ld (.dK [])) xd (.lst [])) tq (.tup [.ref D, .ref ld, .ref xd]) = H3 at S3 q1 q2 q3 hD3 ⊢
      refine ⟨tq, _, rfl, SqT.of q3, rfl, _, _, rfl, _, _, rfl, _, _, rfl, rfl, ?_⟩
      refine ⟨_, rfl, rfl, _, rfl, ?_⟩
      have ek : decide (V.str (kindS b) = V.str "wide") = b := by cases b <;> decide +kernel
      rw [ek]
      have hol : ((es.map (ownT n)).map V.int).length = es.length := by rw [List.length_map, List.length_map]
      cases b with
      | true =>
        refine iteT ?_
        refine ⟨_, rfl, D, _, rfl, .inl (SqL.of hD3), (((es.map (ownT n)).map V.int).length : Nat), rfl, by omega, by omega, fun W hW => ?_⟩
        rw [Int.toNat_natCast, hol]
        have S4 : Same H3 (upd H3 W (.lst [])) := fun p o e => by rw [upd_ne (ne_of_none e hW)]; exact e
        refine lc_it walk_range (fun i H4 => Same H3 H4 ∧ TupsAt H4 W ((es.take i).zipIdx.map fun q => [V.int (ownT n q.1), V.int ((q.2 : Nat) : Int)]))
          ⟨S4, tups_nil upd_same⟩ (fun _ _ _ _ => True.intro) ?_ ?_
        · rintro i z H4 H5 hi ⟨k4, T4⟩ ⟨e, ez⟩
          have ez2 : z = V.int ((i : Nat) : Int) := by
            rw [ez]
            show V.int (0 + ((i : Nat) : Int)) = _
            rw [Int.zero_add]
          clear ez
          subst e ez2
          obtain ⟨en, hen⟩ : ∃ x, es[i]? = some x := ⟨_, List.getElem?_eq_getElem hi⟩
          have hown : ((es.map (ownT n)).map V.int)[i]? = some (V.int (ownT n en)) := by rw [List.getElem?_map, List.getElem?_map, hen]; rfl
          obtain ⟨us, u1, u2, u3⟩ := id T4
          refine ⟨rfl, yes_of ?_⟩
          refine ⟨_, rfl, _, rfl, D, _, _, _, rfl, rfl, SqL.of (k4 _ _ hD3), atI_nat hown, _, rfl, by show 2 ≤ sizeLine; decide, fun t ht => ?_⟩
          refine ⟨us.map V.ref, by rw [upd_ne (ne_of_none u1 ht)]; exact u1, ?_, fun p o e => ?_, ?_⟩
          · rw [List.length_map, u2, List.length_map, List.length_zipIdx, List.length_take]
            exact small1000 (by omega)
          · have e4 := k4 _ _ e
            rw [upd_ne (ne_of_none e hW), upd_ne (ne_of_none e4 ht)]
            exact e4
          · have := tups_push u1 u2 u3 ht [V.int (ownT n en), V.int ((i : Nat) : Int)]
            have e2 : (es.take (i + 1)).zipIdx.map (fun q => [V.int (ownT n q.1), V.int ((q.2 : Nat) : Int)]) = (es.take i).zipIdx.map (fun q => [V.int (ownT n q.1), V.int ((q.2 : Nat) : Int)]) ++ [[V.int (ownT n en), V.int ((i : Nat) : Int)]] := by
              rw [List.take_succ, hen, List.zipIdx_append, List.map_append, List.length_take, Nat.min_eq_left (Nat.le_of_lt hi)]
              simp
            rw [e2]
            exact this
        · rintro H4 ⟨k4, T4⟩
          rw [List.take_length] at T4
          obtain ⟨us, u1, u2, u3⟩ := T4
          rw [List.length_map, List.length_zipIdx] at u2
          have hzl : es.zipIdx.length = us.length := by rw [List.length_zipIdx, u2]
          have uT : ∀ (i : Nat) (t : Addr) (q : Ent × Nat), us[i]? = some t → es.zipIdx[i]? = some q → H4 t = some (.tup [.int (ownT n q.1), .int ((q.2 : Nat) : Int)]) := fun i t q e1 e2 => u3 i t _ e1 (by rw [List.getElem?_map, e2]; rfl)
          have zI : ∀ (i : Nat) (q : Ent × Nat), es.zipIdx[i]? = some q → q.2 = i ∧ es[i]? = some q.1 := fun i q e => by
            rw [List.getElem?_zipIdx] at e
            obtain ⟨x, e1, e2⟩ := Option.map_eq_some_iff.mp e
            rw [← e2]
            exact ⟨by simp, e1⟩
          refine ⟨W, us.map V.ref, pairK H4, rfl, SqL.of u1, fun x hx => ?_, fun ys p hs hst hp => ?_⟩
          · obtain ⟨t, ht, rfl⟩ := List.mem_map.mp hx
            obtain ⟨i, hi⟩ := List.mem_iff_getElem?.mp ht
            obtain ⟨q, hq⟩ : ∃ q, es.zipIdx[i]? = some q := ⟨_, List.getElem?_eq_getElem (by rw [hzl]; exact (List.getElem?_eq_some_iff.mp hi).1)⟩
            have := uT i t q hi hq
            exact ⟨t, rfl, by rw [pairK_of this]; exact this⟩
          have hys := sorted_pairs_isort hs hst fun i x hx => by
            rw [List.getElem?_map] at hx
            obtain ⟨t, ht, rfl⟩ := Option.map_eq_some_iff.mp hx
            obtain ⟨q, hq⟩ : ∃ q, es.zipIdx[i]? = some q := ⟨_, List.getElem?_eq_getElem (by rw [hzl]; exact (List.getElem?_eq_some_iff.mp ht).1)⟩
            rw [pairK_of (uT i t q ht hq), (zI i q hq).1]
          have hzm : ∀ q ∈ es.zipIdx.zip us, H4 q.2 = some (.tup [.int (ownT n q.1.1), .int ((q.1.2 : Nat) : Int)]) ∧ es[q.1.2]? = some q.1.1 := fun q hq => by
            obtain ⟨i, hi⟩ := List.mem_iff_getElem?.mp hq
            obtain ⟨e1, e2⟩ := List.getElem?_zip_eq_some.mp hi
            refine ⟨uT i _ _ e2 e1, ?_⟩
            rw [(zI i _ e1).1]
            exact (zI i _ e1).2
          have hus : us.map V.ref = (es.zipIdx.zip us).map fun q => V.ref q.2 := by
            conv => lhs; rw [← List.map_snd_zip (l₁ := es.zipIdx) (l₂ := us) (by omega)]
            rw [List.map_map]
            rfl
          have hyL : ys = (sortBy (fun q : (Ent × Nat) × Addr => ownT n q.1.1) (es.zipIdx.zip us)).map fun q => V.ref q.2 := by
            rw [hys, hus, List.map_map]
            have e1 : ((es.zipIdx.zip us).map ((fun x => ((pairK H4 x).1, x)) ∘ fun q => V.ref q.2)) = ((es.zipIdx.zip us).map fun q => (ownT n q.1.1, q)).map fun r => (r.1, V.ref r.2.2) := by
              rw [List.map_map]
              refine List.map_congr_left fun q hq => ?_
              show ((pairK H4 (V.ref q.2)).1, V.ref q.2) = (ownT n q.1.1, V.ref q.2)
              rw [pairK_of (hzm q hq).1]
            rw [e1, isort_map (fun q : (Ent × Nat) × Addr => V.ref q.2), List.map_map]
            unfold sortBy
            rw [List.map_map]
            rfl
          have hLm : ∀ q ∈ sortBy (fun q : (Ent × Nat) × Addr => ownT n q.1.1) (es.zipIdx.zip us), q ∈ es.zipIdx.zip us := fun q hq => (sortBy_perm _ _).mem_iff.mp hq
          have hLo : (sortBy (fun q : (Ent × Nat) × Addr => ownT n q.1.1) (es.zipIdx.zip us)).map (fun q => (q.1.1.1, ownT n q.1.1, q.1.1.2.2)) = outW n es := by
            have e1 : (es.zipIdx.zip us).map (fun q => q.1.1) = es := by
              have h := List.map_fst_zip (l₁ := es.zipIdx) (l₂ := us) (by omega)
              have h2 : es.zipIdx.map Prod.fst = es := by simp
              have h4 : (es.zipIdx.zip us).map (fun q => q.1.1) = ((es.zipIdx.zip us).map Prod.fst).map Prod.fst := by rw [List.map_map]; rfl
              rw [h4, h, h2]
            have e2 := sortBy_map (fun q : (Ent × Nat) × Addr => q.1.1) (fun q => ownT n q.1.1) (ownT n) (es.zipIdx.zip us) (fun _ _ => rfl)
            unfold outW
            rw [← congrArg (sortBy (ownT n)) e1, e2, List.map_map]
            rfl
          have hLl : (sortBy (fun q : (Ent × Nat) × Addr => ownT n q.1.1) (es.zipIdx.zip us)).length ≤ 10 := by
            rw [(sortBy_perm _ _).length_eq, List.length_zip]
            omega
          generalize sortBy (fun q : (Ent × Nat) × Addr => ownT n q.1.1) (es.zipIdx.zip us) = L at hyL hLm hLo hLl
          rw [hyL]
          have S5 : Same H4 (upd H4 p (.lst (L.map fun q => V.ref q.2))) := fun b o e => by rw [upd_ne (ne_of_none e hp)]; exact e
          have S35 := S3.trans (k4.trans S5)
          have hp5 : upd H4 p (.lst (L.map fun q => V.ref q.2)) p = some (.lst (L.map fun q => V.ref q.2)) := upd_same
          have hL5 : ∀ q ∈ L, (upd H4 p (.lst (L.map fun q => V.ref q.2))) q.2 = some (.tup [.int (ownT n q.1.1), .int ((q.1.2 : Nat) : Int)]) := fun q hq => S5 _ _ (hzm q (hLm q hq)).1
          generalize upd H4 p (.lst (L.map fun q => V.ref q.2)) = H5 at S35 hp5 hL5 ⊢
          refine ⟨_, rfl, p, rfl, ⟨_, SqL.of hp5⟩, fun O hO => ?_⟩
          refine lc_it walk_list (fun i H6 => Same H5 H6 ∧ TupsAt H6 O (((L.take i).map fun q => (q.1.1.1, ownT n q.1.1, q.1.1.2.2)).map entV))
            ⟨fun b o e => by rw [upd_ne (ne_of_none e hO)]; exact e, tups_nil upd_same⟩ (fun i H6 _ ⟨k6, _⟩ => SqL.of (k6 _ _ hp5)) ?_ ?_
          · rintro i z H6 H7 hi ⟨k6, T6⟩ ⟨e, hz⟩
            subst e
            obtain ⟨q, hq, rfl⟩ : ∃ q, L[i]? = some q ∧ z = V.ref q.2 := by
              rw [List.getElem?_map] at hz
              obtain ⟨t, z1, z2⟩ := Option.map_eq_some_iff.mp hz
              exact ⟨t, z1, z2.symm⟩
            have hmq := List.mem_of_getElem? hq
            have hqe := (hzm q (hLm q hmq)).2
            obtain ⟨t, ht⟩ : ∃ t, ts[q.1.2]? = some t := ⟨_, List.getElem?_eq_getElem (by rw [h2, List.length_map]; exact (List.getElem?_eq_some_iff.mp hqe).1)⟩
            have htv := k6 _ _ (S35 _ _ (h3 q.1.2 t (entV q.1.1) ht (by rw [List.getElem?_map, hqe]; rfl)))
            have hea := k6 _ _ (S35 _ _ h1)
            obtain ⟨vs, v1, v2, v3⟩ := id T6
            refine ⟨q.2, _, rfl, SqT.of (k6 _ _ (hL5 q hmq)), rfl, _, _, rfl, _, _, rfl, rfl, ?_⟩
            refine ⟨rfl, yes_of ?_⟩
            refine ⟨_, rfl, _, rfl, ea, _, _, _, rfl, rfl, SqL.of hea, atI_nat (map_at V.ref ht), t, _, _, _, rfl, rfl, SqT.of htv, rfl, ?_⟩
            refine ⟨_, rfl, _, rfl, _, rfl, ea, _, _, _, rfl, rfl, SqL.of hea, atI_nat (map_at V.ref ht), t, _, _, _, rfl, rfl, SqT.of htv, rfl, by show 3 ≤ sizeLine; decide, fun x hx => ?_⟩
            refine ⟨vs.map V.ref, by rw [upd_ne (ne_of_none v1 hx)]; exact v1, ?_, fun b o e => ?_, ?_⟩
            · rw [List.length_map, v2, List.length_map, List.length_map, List.length_take]
              exact small1000 (by omega)
            · have e4 := k6 _ _ e
              rw [upd_ne (ne_of_none e hO), upd_ne (ne_of_none e4 hx)]
              exact e4
            · have := tups_push v1 v2 v3 hx (entV (q.1.1.1, ownT n q.1.1, q.1.1.2.2))
              have e2 : ((L.take (i + 1)).map fun q => (q.1.1.1, ownT n q.1.1, q.1.1.2.2)).map entV = ((L.take i).map fun q => (q.1.1.1, ownT n q.1.1, q.1.1.2.2)).map entV ++ [entV (q.1.1.1, ownT n q.1.1, q.1.1.2.2)] := by
                rw [List.take_succ, hq, List.map_append, List.map_append]
                rfl
              rw [e2]
              exact this
          · rintro H6 ⟨k6, T6⟩
            rw [List.length_map, List.take_length, hLo] at T6
            refine fun l2 hl2 => ⟨by show 2 ≤ sizeLine; decide, fun t ht => ?_⟩
            have S6 : Same H6 (upd H6 l2 (.dK [])) := fun b o e => by rw [upd_ne (ne_of_none e hl2)]; exact e
            have S7 : Same (upd H6 l2 (.dK [])) (upd (upd H6 l2 (.dK [])) t (.tup [.ref O, .ref l2])) := fun b o e => by rw [upd_ne (ne_of_none e ht)]; exact e
            exact k _ t O l2 [] (S35.trans (k6.trans (S6.trans S7))) upd_same (T6.same (S6.trans S7)) (S7 _ _ upd_same) (fun m => rfl) (none_back S35 hO) (none_back (S35.trans k6) hl2)
      | false =>
        refine iteF ?_
        refine ⟨_, rfl, D, _, rfl, .inl (SqL.of hD3), (((es.map (ownT n)).map V.int).length : Nat), rfl, by omega, by omega, fun W hW => ?_⟩
        rw [Int.toNat_natCast, hol]
        have S4 : Same H3 (upd H3 W (.lst [])) := fun p o e => by rw [upd_ne (ne_of_none e hW)]; exact e
        refine lc_it walk_range (fun i H4 => Same H3 H4 ∧ H4 W = some (.lst (((List.range i).map (topL n es)).map V.int)))
          ⟨S4, upd_same⟩ (fun _ _ _ _ => True.intro) ?_ ?_
        · rintro i z H4 H5 hi ⟨k4, T4⟩ ⟨e, ez⟩
          have ez2 : z = V.int ((i : Nat) : Int) := by
            rw [ez]
            show V.int (0 + ((i : Nat) : Int)) = _
            rw [Int.zero_add]
          clear ez
          subst e ez2
          refine ⟨rfl, yes_of ?_⟩
          refine ⟨by show 1 ≤ sizeLine; decide, fun a ha => ?_⟩
          have e4 := k4 _ _ hD3
          have s5 : Same H5 (upd H5 a (.lst [.int 0])) := fun b o e => by rw [upd_ne (ne_of_none e ha)]; exact e
          refine ⟨_, rfl, _, rfl, _, rfl, D, _, rfl, SqL.of (s5 _ _ e4), fun c hc => ?_⟩
          rw [cut_to (by rw [hol]; omega)]
          have s6 : Same (upd H5 a (.lst [.int 0])) (upd (upd H5 a (.lst [.int 0])) c (.lst (((es.map (ownT n)).map V.int).take i))) := fun b o e => by rw [upd_ne (ne_of_none e hc)]; exact e
          refine ⟨a, c, _, _, rfl, rfl, s6 _ _ upd_same, upd_same, ?_, fun d hd => ?_⟩
          · rw [List.length_take, hol]
            exact Nat.le_of_lt (small1000 (by show 1 + min i es.length ≤ 1000; omega))
          have s7 : Same (upd (upd H5 a (.lst [.int 0])) c (.lst (((es.map (ownT n)).map V.int).take i))) (upd (upd (upd H5 a (.lst [.int 0])) c (.lst (((es.map (ownT n)).map V.int).take i))) d (.lst ([.int 0] ++ ((es.map (ownT n)).map V.int).take i))) := fun b o e => by rw [upd_ne (ne_of_none e hd)]; exact e
          have S57 := s5.trans (s6.trans s7)
          refine ⟨d, 0 :: (es.take i).map (ownT n), rfl, SqL.of (by rw [upd_same, ← List.map_take, ← List.map_take]; rfl), by simp, fun m hm hmx => ?_⟩
          have em := topL_is hm hmx
          refine ⟨_, S57 _ _ T4, ?_, fun p o e => ?_, ?_⟩
          · rw [List.length_map, List.length_map, List.length_range]
            exact small1000 (by omega)
          · rw [upd_ne (ne_of_none e hW)]
            exact S57 _ _ (k4 _ _ e)
          · rw [upd_same, em, List.range_succ, List.map_append, List.map_append]
            rfl
        · rintro H4 ⟨k4, T4⟩
          have nWx : W ≠ xd := (ne_of_none q1 hW).symm
          have nWl : W ≠ ld := (ne_of_none q2 hW).symm
          refine ⟨_, rfl, ea, _, rfl, .inl (SqL.of (k4 _ _ (S3 _ _ h1))), (((ts.map V.ref).length : Nat) : Int), rfl, by omega, by omega, ?_⟩
          rw [Int.toNat_natCast, hel]
          refine for_it walk_range (fun i σ H6 => ∃ (v8 v9 : Option V) (kv : List (Key × V)), σ = [some (.str (kindS false)), some (.int ((n : Nat) : Int)), some (.ref ea), some (.ref D), some (.ref ld), some (.ref xd), none, some (.ref W), v8, v9, none, none, none, none] ∧
              Same H H6 ∧ H6 D = some (.lst ((es.map (ownT n)).map V.int)) ∧ H6 W = some (.lst (((List.range es.length).map (topL n es)).map V.int)) ∧ H6 ld = some (.dK kv) ∧ kv.length ≤ i ∧ TupsAt H6 xd ((outN n es i).map entV) ∧ (outN n es i).length = i ∧ LdD kv (rowN n es i))
            ⟨none, none, [], rfl, S3.trans k4, k4 _ _ hD3, T4, k4 _ _ q2, Nat.le_refl _, tups_nil (k4 _ _ q1), rfl, fun m => rfl⟩ (fun _ _ _ _ _ => True.intro) ?_ ?_
          · rintro i z σ H6 H7 hi ⟨v8, v9, kv, rfl, k6, hD6, hW6, hl6, lkv, T6, ol6, hLd⟩ ⟨e, ez⟩
            have ez2 : z = V.int ((i : Nat) : Int) := by
              rw [ez]
              show V.int (0 + ((i : Nat) : Int)) = _
              rw [Int.zero_add]
            clear ez
            subst e ez2
            obtain ⟨en, hen⟩ : ∃ x, es[i]? = some x := ⟨_, List.getElem?_eq_getElem hi⟩
            refine ⟨_, rfl, ((i : Nat) : Int), rfl, by omega, by omega, fun F hF => ?_⟩
            rw [Int.toNat_natCast]
            have nFD := ne_of_none hD6 hF
            refine lc_it walk_range (fun j H8 => Same H7 H8 ∧ ∃ fs : List Nat, H8 F = some (.lst (fs.map fun (q : Nat) => V.int (q : Int))) ∧ (∀ q ∈ fs, q < j) ∧ fs.length ≤ j ∧ (∀ q x, q < j → es[q]? = some x → topL n es q ≤ ownT n x → q ∈ fs) ∧ fs = frees n es j)
              ⟨fun b o e => by rw [upd_ne (ne_of_none e hF)]; exact e, [], upd_same, fun q hq => (nomatch hq), Nat.le_refl _, fun q x hq => absurd hq (Nat.not_lt_zero _), rfl⟩ (fun _ _ _ _ => True.intro) ?_ ?_
            · rintro j z H8 H9 hj ⟨k8, fs, f1, f2, f3, f4, f5⟩ ⟨e, ez⟩
              have ez2 : z = V.int ((j : Nat) : Int) := by
                rw [ez]
                show V.int (0 + ((j : Nat) : Int)) = _
                rw [Int.zero_add]
              clear ez
              subst e ez2
              obtain ⟨ej, hej⟩ : ∃ x, es[j]? = some x := ⟨_, List.getElem?_eq_getElem (by omega)⟩
              have ho : ((es.map (ownT n)).map V.int)[j]? = some (V.int (ownT n ej)) := by rw [List.getElem?_map, List.getElem?_map, hej]; rfl
              have ht : (((List.range es.length).map (topL n es)).map V.int)[j]? = some (V.int (topL n es j)) := by rw [List.getElem?_map, List.getElem?_map, List.getElem?_range (by omega)]; rfl
              refine ⟨rfl, ?_⟩
              refine ⟨_, rfl, _, rfl, D, _, _, _, rfl, rfl, SqL.of (k8 _ _ hD6), atI_nat ho, _, rfl, _, rfl, W, _, _, _, rfl, rfl, SqL.of (k8 _ _ hW6), atI_nat ht, _, _, rfl, rfl, _, rfl, ?_⟩
              by_cases hc : topL n es j ≤ ownT n ej
              · rw [decide_eq_true hc]
                refine iteT ⟨_, rfl, _, f1, ?_, fun b o e => ?_, fs ++ [j], ?_, fun q hq => ?_, ?_, fun q x hq h1 h2 => ?_, by rw [frees_succ hej, if_pos hc, f5]⟩
                · rw [List.length_map]
                  exact small1000 (by omega)
                · rw [upd_ne (ne_of_none e hF)]
                  exact k8 _ _ e
                · rw [upd_same, List.map_append]
                  rfl
                · rcases List.mem_append.mp hq with hq | hq
                  · have := f2 q hq
                    omega
                  · rw [List.mem_singleton.mp hq]
                    omega
                · rw [List.length_append]
                  show fs.length + 1 ≤ j + 1
                  omega
                · by_cases hqj : q < j
                  · exact List.mem_append_left _ (f4 q x hqj h1 h2)
                  · have : q = j := by omega
                    rw [this]
                    exact List.mem_append_right _ (List.mem_singleton.mpr rfl)
              · rw [decide_eq_false hc]
                refine iteF ⟨k8, fs, f1, fun q hq => by have := f2 q hq; omega, by omega, fun q x hq h1 h2 => ?_, by rw [frees_succ hej, if_neg hc, f5]⟩
                by_cases hqj : q < j
                · exact f4 q x hqj h1 h2
                · have : q = j := by omega
                  subst this
                  rw [hej] at h1
                  cases Option.some.inj h1
                  exact absurd h2 hc
            · rintro H8 ⟨k8, fs, f1, f2, f3, f4, f5⟩
              have hea8 := k8 _ _ (k6 _ _ h1)
              have hD8 := k8 _ _ hD6
              have hW8 := k8 _ _ hW6
              have hl8 := k8 _ _ hl6
              have T8 := T6.same k8
              have tsat : ∀ q x, es[q]? = some x → ∃ t, ts[q]? = some t ∧ H t = some (.tup (entV x)) := fun q x e => by
                obtain ⟨t, ht⟩ : ∃ t, ts[q]? = some t := ⟨_, List.getElem?_eq_getElem (by rw [h2, List.length_map]; exact (List.getElem?_eq_some_iff.mp e).1)⟩
                exact ⟨t, ht, h3 q t (entV x) ht (by rw [List.getElem?_map, e]; rfl)⟩
              obtain ⟨t, ht, htv⟩ := tsat i en hen
              have ho : ((es.map (ownT n)).map V.int)[i]? = some (V.int (ownT n en)) := by rw [List.getElem?_map, List.getElem?_map, hen]; rfl
              have htp : (((List.range es.length).map (topL n es)).map V.int)[i]? = some (V.int (topL n es i)) := by rw [List.getElem?_map, List.getElem?_map, List.getElem?_range (by omega)]; rfl
              have S8 := k6.trans k8
              refine ⟨_, rfl, _, rfl, D, _, _, _, rfl, rfl, SqL.of hD8, atI_nat ho, _, rfl, _, rfl, W, _, _, _, rfl, rfl, SqL.of hW8, atI_nat htp, _, _, rfl, rfl, _, rfl, ?_⟩
              by_cases hc : ownT n en < topL n es i
              rw [decide_eq_true hc]
              refine iteT ?_
              have h0 : 0 ≤ ownT n en := by
                obtain ⟨g1, g2, _⟩ := hd en (List.mem_of_getElem? hen)
                have := Int.mul_nonneg g2 (Int.natCast_nonneg n)
                unfold ownT
                omega
              obtain ⟨q, x, hq, hx, hqx⟩ := free_ne h0 hc
              have hne : fs ≠ [] := fun z => by
                have := f4 q x hq hx hqx
                rw [z] at this
                cases this
              obtain ⟨fs', r, efs⟩ : ∃ fs' r, fs = fs' ++ [r] := ⟨_, _, (List.dropLast_concat_getLast hne).symm⟩
              have hr := f2 r (by rw [efs]; simp)
              obtain ⟨er, her⟩ : ∃ x, es[r]? = some x := ⟨_, List.getElem?_eq_getElem (by omega)⟩
              obtain ⟨tr, htr, htrv⟩ := tsat r er her
              rw [efs, List.map_append] at f1
              refine ⟨_, rfl, _, rfl, _, rfl, F, _, _, V.int ((r : Nat) : Int), rfl, rfl, SqL.of f1, atI_last _ _, ea, _, _, _, rfl, rfl, SqL.of hea8, atI_nat (map_at V.ref htr), tr, _, _, _, rfl, rfl, SqT.of (S8 _ _ htrv), rfl, _, rfl, _, rfl, _, rfl, ea, _, _, _, rfl, rfl, SqL.of hea8, atI_nat (map_at V.ref ht), t, _, _, _, rfl, rfl, SqT.of (S8 _ _ htv), rfl, ld, _, rfl, DPut.k (k := (Sum.inr en.1 : Key)) hl8 (small1000 (by omega)), ?_⟩
              have S9 : Same H (upd H8 ld (.dK (putK kv (Sum.inr en.1 : Key) (.str er.1)))) := fun b o e => by rw [upd_ne (ne_of_none e hlH)]; exact S8 _ _ e
              have hD9 : upd H8 ld (.dK (putK kv (Sum.inr en.1 : Key) (.str er.1))) D = _ := (upd_ne nDl).trans hD8
              have hW9 : upd H8 ld (.dK (putK kv (Sum.inr en.1 : Key) (.str er.1))) W = _ := (upd_ne nWl).trans hW8
              have hl9 : upd H8 ld (.dK (putK kv (Sum.inr en.1 : Key) (.str er.1))) ld = some (.dK (putK kv (Sum.inr en.1 : Key) (.str er.1))) := upd_same
              have lkv9 : (putK kv (Sum.inr en.1 : Key) (.str er.1)).length ≤ i + 1 := Nat.le_trans (length_putK _ _ _) (by omega)
              have hnw : (rowX n es i en).1 ∉ (rowN n es i).map (·.1) := by
                rw [rowN_names i (Nat.le_of_lt hi)]
                exact ents_new hnds hen
              have hLd9 : LdD (putK kv (Sum.inr en.1 : Key) (.str er.1)) (rowN n es (i + 1)) := by
                rw [rowN_succ hen]
                refine LdD.put (r := rowX n es i en) hLd hnw ?_
                show (if ownT n en < topL n es i then ldrX n es i else none) = _
                rw [if_pos hc]
                unfold ldrX
                rw [← f5, efs, List.getLast?_append]
                show (es[r]?).map (·.1) = _
                rw [her]
                rfl
              have T9 : TupsAt (upd H8 ld (.dK (putK kv (Sum.inr en.1 : Key) (.str er.1)))) xd ((outN n es i).map entV) := by
                obtain ⟨us, u1, u2, u3⟩ := T8
                exact ⟨us, (upd_ne nlx.symm).trans u1, u2, fun j b v e1 e2 => (upd_ne (ne_of (u3 j b v e1 e2) hl8 (by intro z; cases z))).trans (u3 j b v e1 e2)⟩
              generalize putK kv (Sum.inr en.1 : Key) (.str er.1) = kv9 at *
              generalize upd H8 ld (.dK kv9) = H9 at *
              clear f1
              rotate_left
              rw [decide_eq_false hc]
              refine iteF ?_
              obtain ⟨H9, e9⟩ : ∃ h, h = H8 := ⟨_, rfl⟩
              subst e9
              obtain ⟨kv9, e9⟩ : ∃ h, h = kv := ⟨_, rfl⟩
              subst e9
              have S9 := S8
              have hD9 := hD8
              have hW9 := hW8
              have hl9 := hl8
              have lkv9 : kv9.length ≤ i + 1 := by omega
              have hLd9 : LdD kv9 (rowN n es (i + 1)) := by
                rw [rowN_succ hen]
                refine LdD.skip (r := rowX n es i en) hLd (by rw [rowN_names i (Nat.le_of_lt hi)]; exact ents_new hnds hen) ?_
                show (if ownT n en < topL n es i then ldrX n es i else none) = none
                rw [if_neg hc]
              have T9 := T8
              rotate_left
              all_goals
                have hea9 := S9 _ _ h1
                have htv9 := S9 _ _ htv
                obtain ⟨us, x1, x2, x3⟩ := id T9
                have emx : (if topL n es i > ownT n en then topL n es i else ownT n en) = max (ownT n en) (topL n es i) := by split <;> omega
                have eon : outN n es (i + 1) = outN n es i ++ [(en.1, max (ownT n en) (topL n es i), en.2.2)] := by
                  show (match es[i]? with
                    | some e => outN n es i ++ [(e.1, max (ownT n e) (topL n es i), e.2.2)]
                    | none => outN n es i) = _
                  rw [hen]
                refine ⟨_, rfl, .inl ⟨rfl, _, SqL.of x1⟩, _, rfl, _, rfl, ea, _, _, _, rfl, rfl, SqL.of hea9, atI_nat (map_at V.ref ht), t, _, _, _, rfl, rfl, SqT.of htv9, rfl, ?_⟩
                refine ⟨_, rfl, _, rfl, D, _, _, _, rfl, rfl, SqL.of hD9, atI_nat ho, _, rfl, _, rfl, W, _, _, _, rfl, rfl, SqL.of hW9, atI_nat htp, _, _, rfl, ?_⟩
                refine ⟨_, rfl, _, rfl, ea, _, _, _, rfl, rfl, SqL.of hea9, atI_nat (map_at V.ref ht), t, _, _, _, rfl, rfl, SqT.of htv9, rfl, by show 3 ≤ sizeLine; decide, fun tt htt => ?_⟩
                rw [emx]
                have nxt : xd ≠ tt := ne_of_none x1 htt
                refine ⟨xd, _, .ref tt, rfl, rfl, by rw [upd_ne nxt]; exact x1, by rw [List.length_map, x2, List.length_map, ol6]; exact small1000 (by omega), ?_⟩
                have hup : Same H9 (upd H9 tt (.tup [.str en.1, .int (max (ownT n en) (topL n es i)), .int en.2.2])) := fun b o e => by rw [upd_ne (ne_of_none e htt)]; exact e
                refine ⟨_, _, kv9, rfl, fun b o e => ?_, ?_, ?_, ?_, lkv9, ?_, by rw [eon, List.length_append, ol6]; rfl, hLd9⟩
                · rw [upd_ne (ne_of_none e nxH)]
                  exact hup _ _ (S9 _ _ e)
                · rw [upd_ne nDx]
                  exact hup _ _ hD9
                · rw [upd_ne nWx]
                  exact hup _ _ hW9
                · rw [upd_ne nlx]
                  exact hup _ _ hl9
                · rw [eon, List.map_append]
                  exact tups_push x1 x2 x3 htt _
          · rintro σ H6 ⟨v8, v9, kv, rfl, k6, hD6, hW6, hl6, lkv, T6, ol6, hLd⟩
            refine ⟨_, rfl, _, rfl, by show 2 ≤ sizeLine; decide, fun t ht => ?_⟩
            have S7 : Same H6 (upd H6 t (.tup [.ref xd, .ref ld])) := fun b o e => by rw [upd_ne (ne_of_none e ht)]; exact e
            exact k _ t xd ld kv (k6.trans S7) upd_same (T6.same S7) (S7 _ _ hl6) (fun m => by rw [hLd m]; show _ = (leadOf (rowN n es es.length) m).map V.str; unfold leadOf; cases look (rowN n es es.length) m <;> rfl) nxH hlH
end
end Sl

set_option Elab.async false
set_option linter.all false
set_option maxRecDepth 100000
set_option maxHeartbeats 1000000
namespace Sl
open PySem PySem.Spec L2 OwnR LamX
/-! ### the law's way to drive is the program's -/
def entP (pace : Str → Int) (p : Pl Str) (n : Str) : Ent := (n, p.tk n, pace n)
def entsP (pace : Str → Int) (p : Pl Str) : List Ent := p.ord.map (entP pace p)
theorem topL_zero (n : Nat) (es : List Ent) : topL n es 0 = 0 := rfl
theorem topL_succ {n : Nat} {es : List Ent} {j : Nat} {e : Ent} (h : es[j]? = some e) : topL n es (j + 1) = max (topL n es j) (ownT n e) := by
  unfold topL
  rw [List.take_add_one, h, List.map_append, List.foldl_append]
  rfl
theorem outN_rows {pace : Str → Int} {p : Pl Str} {n : Nat} : ∀ j, j ≤ p.ord.length → outN n (entsP pace p) j = (rowN n (entsP pace p) j).map (fun r => (r.1, r.2.1, pace r.1)) := by
  intro j
  induction j with
  | zero => intro _; rfl
  | succ j ih =>
    intro hj
    obtain ⟨m, hm⟩ : ∃ m, p.ord[j]? = some m := ⟨_, List.getElem?_eq_getElem (by omega)⟩
    have he : (entsP pace p)[j]? = some (entP pace p m) := by unfold entsP; rw [List.getElem?_map, hm]; rfl
    have e1 : outN n (entsP pace p) (j + 1) = outN n (entsP pace p) j ++ [(m, max (freeP pace p n m) (topL n (entsP pace p) j), pace m)] := by
      show (match (entsP pace p)[j]? with
        | some e => outN n (entsP pace p) j ++ [(e.1, max (ownT n e) (topL n (entsP pace p) j), e.2.2)]
        | none => outN n (entsP pace p) j) = _
      rw [he]
      rfl
    rw [e1, ih (by omega), rowN_succ he, List.map_append]
    rfl
theorem rowN_foll {pace : Str → Int} {p : Pl Str} {n : Nat} (h0 : ∀ m ∈ p.ord, 0 ≤ freeP pace p n m) : ∀ j, j ≤ p.ord.length →
    rowN n (entsP pace p) j = foll (freeP pace p n) (p.ord.take j) ∧
    (∀ r, (foll (freeP pace p n) (p.ord.take j)).getLast? = some r → r.2.1 = topL n (entsP pace p) j ∧ ldrX n (entsP pace p) j = some (r.2.2.getD r.1)) ∧ 0 ≤ topL n (entsP pace p) j := by
  intro j
  induction j with
  | zero => intro _; exact ⟨rfl, fun r e => (nomatch e), Int.le_refl _⟩
  | succ j ih =>
    intro hj
    obtain ⟨i1, i2, i3⟩ := ih (by omega)
    obtain ⟨m, hm⟩ : ∃ m, p.ord[j]? = some m := ⟨_, List.getElem?_eq_getElem (by omega)⟩
    have he : (entsP pace p)[j]? = some (entP pace p m) := by unfold entsP; rw [List.getElem?_map, hm]; rfl
    have ho : ownT n (entP pace p m) = freeP pace p n m := rfl
    have hp := h0 m (List.mem_of_getElem? hm)
    have et : p.ord.take (j + 1) = p.ord.take j ++ [m] := by rw [List.take_add_one, hm]; rfl
    have e2 := topL_succ (n := n) he
    have efr := frees_succ (n := n) he
    rw [ho] at e2 efr
    have hlen : (foll (freeP pace p n) (p.ord.take j)).length = j := by
      rw [foll_length, List.length_take]
      omega
    rw [et, foll_snoc, rowN_succ he, i1, e2]
    have ehd : rowX n (entsP pace p) j (entP pace p m) = (m, max (freeP pace p n m) (topL n (entsP pace p) j), if freeP pace p n m < topL n (entsP pace p) j then ldrX n (entsP pace p) j else none) := rfl
    rw [ehd]
    have hdl : ∀ (r : RowT Str), (foll (freeP pace p n) (p.ord.take j) ++ [r]).getLast? = some r := fun r => by
      rw [List.getLast?_append]
      rfl
    have lfree : topL n (entsP pace p) j ≤ freeP pace p n m → ldrX n (entsP pace p) (j + 1) = some m := fun c => by
      unfold ldrX
      rw [efr, if_pos c, List.getLast?_append]
      show ((entsP pace p)[j]?).map (·.1) = _
      rw [he]
      rfl
    have lheld : ¬ topL n (entsP pace p) j ≤ freeP pace p n m → ldrX n (entsP pace p) (j + 1) = ldrX n (entsP pace p) j := fun c => by
      unfold ldrX
      rw [efr, if_neg c]
    generalize foll (freeP pace p n) (p.ord.take j) = acc at *
    have key : fnext (freeP pace p n) acc m = (m, max (freeP pace p n m) (topL n (entsP pace p) j), if freeP pace p n m < topL n (entsP pace p) j then ldrX n (entsP pace p) j else none) ∧
        ldrX n (entsP pace p) (j + 1) = some (((if freeP pace p n m < topL n (entsP pace p) j then ldrX n (entsP pace p) j else none) : Option Str).getD m) := by
      unfold fnext
      cases hl : acc.getLast? with
      | none =>
        have ha : acc = [] := List.getLast?_eq_none_iff.mp hl
        rw [ha] at hlen
        have hj0 : j = 0 := hlen.symm
        subst hj0
        rw [topL_zero] at lfree ⊢
        rw [if_neg (by omega), lfree hp]
        refine ⟨?_, rfl⟩
        show (m, freeP pace p n m, none) = _
        rw [Int.max_eq_left hp]
      | some r =>
        obtain ⟨a, t, l⟩ := r
        obtain ⟨ht, hx⟩ := i2 _ hl
        have ht2 : t = topL n (entsP pace p) j := ht
        have hx2 : ldrX n (entsP pace p) j = some (l.getD a) := hx
        show (if freeP pace p n m < t then (m, t, some (l.getD a)) else (m, freeP pace p n m, none)) = _ ∧ _
        rw [ht2]
        by_cases c : freeP pace p n m < topL n (entsP pace p) j
        · rw [if_pos c, if_pos c, lheld (by omega), hx2, Int.max_eq_right (by omega)]
          exact ⟨rfl, rfl⟩
        · rw [if_neg c, if_neg c, lfree (by omega), Int.max_eq_left (by omega)]
          exact ⟨rfl, rfl⟩
    refine ⟨by rw [key.1], fun r e => ?_, by omega⟩
    have er : r = fnext (freeP pace p n) acc m := by
      rw [hdl] at e
      exact (Option.some.inj e).symm
    rw [er, key.1]
    exact ⟨by show max _ _ = max _ _; omega, key.2⟩
theorem outS_step {pace : Str → Int} {p : Pl Str} {s : Sec} (nd : p.ord.Nodup) (h0 : ∀ m ∈ p.ord, 0 ≤ freeP pace p s.2 m) : outS s.1 s.2 (entsP pace p) = entsP pace (stepP pace p s) := by
  obtain ⟨b, n⟩ := s
  cases b with
  | true =>
    show outW n (entsP pace p) = (sortBy (freeP pace p n) p.ord).map (fun m => (m, freeP pace p n m, pace m))
    unfold outW entsP
    rw [sortBy_map (entP pace p) (freeP pace p n) (ownT n) p.ord (fun _ _ => rfl), List.map_map]
    rfl
  | false =>
    have hl : (entsP pace p).length = p.ord.length := by unfold entsP; rw [List.length_map]
    show outN n (entsP pace p) (entsP pace p).length = p.ord.map (fun m => (m, tickOf (foll (freeP pace p n) p.ord) m, pace m))
    rw [hl, outN_rows _ (Nat.le_refl _), (rowN_foll h0 p.ord.length (Nat.le_refl _)).1, List.take_length]
    have hn := foll_names (freeP pace p n) p.ord
    have nd2 : ((foll (freeP pace p n) p.ord).map (·.1)).Nodup := by rw [hn]; exact nd
    conv => rhs; rw [← hn]
    rw [List.map_map]
    refine List.map_congr_left fun r hr => ?_
    obtain ⟨i, hi⟩ := List.mem_iff_getElem?.mp hr
    have hk := look_get nd2 hi
    rw [hn]
    show (r.1, r.2.1, pace r.1) = (r.1, tickOf (foll (freeP pace p n) p.ord) r.1, pace r.1)
    unfold tickOf
    rw [hk]
    rfl
theorem ldS_lead {pace : Str → Int} {p : Pl Str} {s : Sec} (h0 : ∀ m ∈ p.ord, 0 ≤ freeP pace p s.2 m) (m : Str) : ldS s.1 s.2 (entsP pace p) m = leadP pace p s m := by
  obtain ⟨b, n⟩ := s
  have hl : (entsP pace p).length = p.ord.length := by unfold entsP; rw [List.length_map]
  cases b with
  | true => rfl
  | false =>
    show leadOf (rowN n (entsP pace p) (entsP pace p).length) m = leadOf (foll (freeP pace p n) p.ord) m
    rw [hl, (rowN_foll h0 p.ord.length (Nat.le_refl _)).1, List.take_length]
end Sl

set_option Elab.async false
set_option linter.all false
set_option maxRecDepth 100000
set_option maxHeartbeats 1000000
namespace Sl
open PySem PySem.Spec L2 OwnR LamX
def gOf (b : Str → List Int) (acc : List (RowT Str)) (n : Str) : List Int := b n ++ (match look acc n with
  | some x => [x.1]
  | none => [])
theorem gOf_nil (b : Str → List Int) : gOf b [] = b := by
  funext n
  unfold gOf
  rw [look_nil]
  exact List.append_nil _
theorem gOf_snoc (b : Str → List Int) (acc : List (RowT Str)) (r : RowT Str) (h : r.1 ∉ acc.map (·.1)) : (fun n => if n = r.1 then gOf b acc r.1 ++ [r.2.1] else gOf b acc n) = gOf b (acc ++ [r]) := by
  funext n
  show (if n = r.1 then gOf b acc r.1 ++ [r.2.1] else gOf b acc n) = _
  unfold gOf
  rw [look_snoc acc r n h]
  by_cases e : n = r.1
  · rw [if_pos e, if_pos e, look_none h, e]
    simp
  · rw [if_neg e, if_neg e]
theorem gOf_in {b : Str → List Int} {acc : List (RowT Str)} {n : Str} {x : Int × Option Str} (h : look acc n = some x) : gOf b acc n = b n ++ [x.1] := by
  unfold gOf
  rw [h]
def tkl (secs : List Sec) (cars : List Car) (i : Nat) (n : Str) : List Int := (List.range (i + 1)).map fun k => (plcC secs cars k).tk n
theorem tkl_succ (secs : List Sec) (cars : List Car) (i : Nat) (n : Str) : tkl secs cars (i + 1) n = tkl secs cars i n ++ [(plcC secs cars (i + 1)).tk n] := by
  unfold tkl
  rw [List.range_succ, List.map_append]
  rfl
theorem tkl_last (secs : List Sec) (cars : List Car) (i : Nat) (n : Str) : ∃ l, tkl secs cars i n = l ++ [(plcC secs cars i).tk n] := by
  unfold tkl
  exact ⟨(List.range i).map fun k => (plcC secs cars k).tk n, by rw [List.range_succ, List.map_append]; rfl⟩
/-- lists of numbers are no lists of names, none of references -/
theorem ints_str {l : List Int} {m : List Str} (h : l ≠ []) : (HO.lst (l.map V.int)) ≠ .lst (m.map V.str) := by
  intro z
  cases l with
  | nil => exact h rfl
  | cons a r =>
    cases m with
    | nil => cases z
    | cons b q => cases z
theorem ints_ref {l : List Int} {m : List Addr} (h : l ≠ []) : (HO.lst (l.map V.int)) ≠ .lst (m.map V.ref) := by
  intro z
  cases l with
  | nil => exact h rfl
  | cons a r =>
    cases m with
    | nil => cases z
    | cons b q => cases z
structure DrW (H0 H : Hp) (secs : List Sec) (cars : List Car) (i : Nat) (g : Str → List Int) (TK OD LD : Addr) (ds os ls : List Addr) : Prop where
  sm : Same H0 H
  tk : ∃ kt, H TK = some (.dK kt) ∧ ∀ (q : Nat) (c : Car) (d : Addr), cars[q]? = some c → ds[q]? = some d → valV kt (Sum.inr c.name : Key) = some (.ref d)
  dl : ds.length = cars.length
  dv : ∀ (q : Nat) (c : Car) (d : Addr), cars[q]? = some c → ds[q]? = some d → H d = some (.lst ((g c.name).map V.int))
  gne : ∀ n, g n ≠ []
  dn : ds.Nodup
  dnew : ∀ d ∈ ds, H0 d = none
  od : H OD = some (.lst (os.map V.ref))
  ol : os.length = i + 1
  ov : ∀ (k : Nat) (d : Addr), os[k]? = some d → H d = some (.lst ((plcC secs cars k).ord.map V.str))
  odn : H0 OD = none
  ld : H LD = some (.lst (ls.map V.ref))
  ll : ls.length = i
  lv : ∀ (k : Nat) (d : Addr), ls[k]? = some d → ∃ kv, H d = some (.dK kv) ∧ ∀ n, valV kv (Sum.inr n : Key) = (ldrC secs cars k n).map V.str
  ldn : H0 LD = none
  osl : ∀ d ∈ os, d ≠ LD
section
variable {H0 H H' : Hp} {secs : List Sec} {cars : List Car} {i : Nat} {g : Str → List Int} {TK OD LD : Addr} {ds os ls : List Addr}
theorem DrW.step (D : DrW H0 H secs cars i g TK OD LD ds os ls) (e : Same H H') : DrW H0 H' secs cars i g TK OD LD ds os ls where
  sm := D.sm.trans e
  tk := let ⟨kt, a, b⟩ := D.tk; ⟨kt, e _ _ a, b⟩
  dl := D.dl
  dv := fun q c d h1 h2 => e _ _ (D.dv q c d h1 h2)
  gne := D.gne
  dn := D.dn
  dnew := D.dnew
  od := e _ _ D.od
  ol := D.ol
  ov := fun k d h => e _ _ (D.ov k d h)
  odn := D.odn
  ld := e _ _ D.ld
  ll := D.ll
  lv := fun k d h => let ⟨kv, a, b⟩ := D.lv k d h; ⟨kv, e _ _ a, b⟩
  ldn := D.ldn
  osl := D.osl
theorem DrW.congr (D : DrW H0 H secs cars i g TK OD LD ds os ls) {g' : Str → List Int} (h : ∀ c ∈ cars, g c.name = g' c.name) (hn : ∀ n, g' n ≠ []) : DrW H0 H secs cars i g' TK OD LD ds os ls :=
  { D with dv := fun q c d h1 h2 => by rw [← h c (List.mem_of_getElem? h1)]; exact D.dv q c d h1 h2, gne := hn }
/-- a tick is put behind a car's list -/
theorem DrW.tick (D : DrW H0 H secs cars i g TK OD LD ds os ls) (nd : (names cars).Nodup) {q : Nat} {c : Car} {d : Addr} (hq : cars[q]? = some c) (hd : ds[q]? = some d) (x : Int) :
    DrW H0 (upd H d (.lst ((g c.name).map V.int ++ [.int x]))) secs cars i (fun n => if n = c.name then g c.name ++ [x] else g n) TK OD LD ds os ls := by
  have hc := D.dv q c d hq hd
  have kl : ∀ b o, H b = some o → (∀ xs, o ≠ .lst xs) → upd H d (.lst ((g c.name).map V.int ++ [.int x])) b = some o := fun b o e n => by rw [upd_ne (ne_of e hc (n _))]; exact e
  have ks : ∀ b (m : List Str), H b = some (.lst (m.map V.str)) → upd H d (.lst ((g c.name).map V.int ++ [.int x])) b = some (.lst (m.map V.str)) := fun b m e => by rw [upd_ne (ne_of e hc (ints_str (D.gne _)).symm)]; exact e
  have kr : ∀ b (m : List Addr), H b = some (.lst (m.map V.ref)) → upd H d (.lst ((g c.name).map V.int ++ [.int x])) b = some (.lst (m.map V.ref)) := fun b m e => by rw [upd_ne (ne_of e hc (ints_ref (D.gne _)).symm)]; exact e
  have nw := D.dnew d (List.mem_of_getElem? hd)
  refine { D with sm := fun b o e => ?_, tk := ?_, dv := ?_, gne := ?_, od := kr _ _ D.od, ov := fun k b h => ks _ _ (D.ov k b h), ld := kr _ _ D.ld, lv := ?_ }
  · rw [upd_ne (ne_of_none e nw)]
    exact D.sm b o e
  · obtain ⟨kt, a, b⟩ := D.tk
    exact ⟨kt, kl _ _ a fun _ z => (nomatch z), b⟩
  · intro q' c' d' h1 h2
    by_cases e : d' = d
    · subst e
      have : q' = q := nd_ix D.dn h2 hd
      subst this
      rw [hq] at h1
      cases h1
      rw [upd_same]
      show _ = some (HO.lst ((if c.name = c.name then g c.name ++ [x] else g c.name).map V.int))
      rw [if_pos rfl, List.map_append]
      rfl
    · rw [upd_ne e]
      have hne : ¬ c'.name = c.name := fun z => by
        have a1 : (names cars)[q']? = some c.name := by unfold names; rw [List.getElem?_map, h1]; exact congrArg some z
        have a2 : (names cars)[q]? = some c.name := by unfold names; rw [List.getElem?_map, hq]; rfl
        have := nd_ix nd a1 a2
        subst this
        rw [hd] at h2
        exact e (Option.some.inj h2).symm
      show _ = some (HO.lst ((if c'.name = c.name then g c.name ++ [x] else g c'.name).map V.int))
      rw [if_neg hne]
      exact D.dv q' c' d' h1 h2
  · intro n
    show (if n = c.name then g c.name ++ [x] else g n) ≠ []
    split
    · simp
    · exact D.gne n
  · intro k b h
    obtain ⟨kv, a, e⟩ := D.lv k b h
    exact ⟨kv, kl _ _ a fun _ z => (nomatch z), e⟩
/-- the section's order and leaders are put behind the lists -/
theorem DrW.put (D : DrW H0 H secs cars i g TK OD LD ds os ls) {o' l' : Addr} {kv : List (Key × V)} (ho : H o' = some (.lst ((plcC secs cars (i + 1)).ord.map V.str))) (no : o' ≠ LD) (hl : H l' = some (.dK kv)) (hkv : ∀ n, valV kv (Sum.inr n : Key) = (ldrC secs cars i n).map V.str) :
    DrW H0 (upd (upd H OD (.lst (os.map V.ref ++ [.ref o']))) LD (.lst (ls.map V.ref ++ [.ref l']))) secs cars (i + 1) g TK OD LD ds (os ++ [o']) (ls ++ [l']) := by
  have one : os ≠ [] := fun z => by have := D.ol; rw [z] at this; simp at this
  have refs_str : ∀ (m : List Str), HO.lst (m.map V.str) ≠ .lst (os.map V.ref) := fun m z => by
    cases os with
    | nil => exact one rfl
    | cons a r =>
      cases m with
      | nil => cases z
      | cons b q => cases z
  have nOL : OD ≠ LD := fun z => by
    have h1 := D.od
    have h2 := D.ld
    rw [z, h2] at h1
    have h3 : ls.map V.ref = os.map V.ref := by
      have := Option.some.inj h1
      injection this
    have := congrArg List.length h3
    rw [List.length_map, List.length_map, D.ol, D.ll] at this
    omega
  have kl : ∀ b o, H b = some o → (∀ xs, o ≠ .lst xs) → upd (upd H OD (.lst (os.map V.ref ++ [.ref o']))) LD (.lst (ls.map V.ref ++ [.ref l'])) b = some o := fun b o e n => by
    rw [upd_ne (ne_of e D.ld (n _)), upd_ne (ne_of e D.od (n _))]
    exact e
  have kd : ∀ (q : Nat) (c : Car) (d : Addr), cars[q]? = some c → ds[q]? = some d → upd (upd H OD (.lst (os.map V.ref ++ [.ref o']))) LD (.lst (ls.map V.ref ++ [.ref l'])) d = some (.lst ((g c.name).map V.int)) := fun q c d h1 h2 => by
    have e := D.dv q c d h1 h2
    rw [upd_ne (ne_of e D.ld (ints_ref (D.gne _))), upd_ne (ne_of e D.od (ints_ref (D.gne _)))]
    exact e
  refine { D with sm := fun b o e => ?_, tk := ?_, dv := kd, od := ?_, ol := by rw [List.length_append, D.ol]; rfl, ov := ?_, ld := ?_, ll := by rw [List.length_append, D.ll]; rfl, lv := ?_, osl := ?_ }
  · rw [upd_ne (ne_of_none e D.ldn), upd_ne (ne_of_none e D.odn)]
    exact D.sm b o e
  · obtain ⟨kt, a, b⟩ := D.tk
    exact ⟨kt, kl _ _ a fun _ z => (nomatch z), b⟩
  · rw [upd_ne nOL, upd_same, List.map_append]
    rfl
  · intro k d h
    rcases snoc_get h with h | ⟨hk, rfl⟩
    · have e := D.ov k d h
      rw [upd_ne (D.osl d (List.mem_of_getElem? h)), upd_ne (ne_of e D.od (refs_str _))]
      exact e
    · rw [D.ol] at hk
      subst hk
      rw [upd_ne no, upd_ne (ne_of ho D.od (refs_str _))]
      exact ho
  · rw [upd_same, List.map_append]
    rfl
  · intro k d h
    rcases snoc_get h with h | ⟨hk, rfl⟩
    · obtain ⟨kv', a, e⟩ := D.lv k d h
      exact ⟨kv', kl _ _ a fun _ z => (nomatch z), e⟩
    · rw [D.ll] at hk
      subst hk
      exact ⟨kv, kl _ _ hl fun _ z => (nomatch z), hkv⟩
  · intro d hd
    rcases List.mem_append.mp hd with hd | hd
    · exact D.osl d hd
    · rw [List.mem_singleton.mp hd]
      exact no
end
def OrdsAt (H : Hp) (a : Addr) (secs : List Sec) (cars : List Car) : Prop := ∃ os : List Addr, H a = some (.lst (os.map V.ref)) ∧ os.length = secs.length + 1 ∧ ∀ (k : Nat) (d : Addr), os[k]? = some d → H d = some (.lst ((plcC secs cars k).ord.map V.str))
def TksAt (H : Hp) (a : Addr) (secs : List Sec) (cars : List Car) : Prop := ∃ kt, H a = some (.dK kt) ∧ ∀ c ∈ cars, ∃ d, valV kt (Sum.inr c.name : Key) = some (.ref d) ∧ H d = some (.lst ((tkl secs cars secs.length c.name).map V.int))
def LdsAt (H : Hp) (a : Addr) (secs : List Sec) (cars : List Car) : Prop := ∃ ls : List Addr, H a = some (.lst (ls.map V.ref)) ∧ ls.length = secs.length ∧ ∀ (k : Nat) (d : Addr), ls[k]? = some d → ∃ kv, H d = some (.dK kv) ∧ ∀ n, valV kv (Sum.inr n : Key) = (ldrC secs cars k n).map V.str
/-- the rows (key, place), sorted -/
theorem sorted_idx {α : Type} {es : List α} {key : α → Int} {us : List Addr} {H : Hp} (hl : us.length = es.length) (uT : ∀ (i : Nat) (t : Addr) (x : α), us[i]? = some t → es[i]? = some x → H t = some (.tup [.int (key x), .int ((i : Nat) : Int)])) :
    (∀ x ∈ us.map V.ref, ∃ t, x = V.ref t ∧ H t = some (.tup [.int (pairK H x).1, .int (pairK H x).2])) ∧
    ∀ ys, SrtO.Srtd (ltP (pairK H)) ys → SrtO.Stb (ltP (pairK H)) ys (us.map V.ref) → ∃ L : List ((α × Nat) × Addr), ys = L.map (fun q => V.ref q.2) ∧ (∀ q ∈ L, H q.2 = some (.tup [.int (key q.1.1), .int ((q.1.2 : Nat) : Int)]) ∧ es[q.1.2]? = some q.1.1) ∧ L.map (fun q => q.1.1) = sortBy key es := by
  have hzl : es.zipIdx.length = us.length := by rw [List.length_zipIdx, hl]
  have zI : ∀ (i : Nat) (q : α × Nat), es.zipIdx[i]? = some q → q.2 = i ∧ es[i]? = some q.1 := fun i q e => by
    rw [List.getElem?_zipIdx] at e
    obtain ⟨x, e1, e2⟩ := Option.map_eq_some_iff.mp e
    rw [← e2]
    exact ⟨by simp, e1⟩
  have hT : ∀ (i : Nat) (t : Addr) (q : α × Nat), us[i]? = some t → es.zipIdx[i]? = some q → H t = some (.tup [.int (key q.1), .int ((q.2 : Nat) : Int)]) := fun i t q e1 e2 => by
    rw [(zI i q e2).1]
    exact uT i t q.1 e1 (zI i q e2).2
  refine ⟨fun x hx => ?_, fun ys hs hst => ?_⟩
  · obtain ⟨t, ht, rfl⟩ := List.mem_map.mp hx
    obtain ⟨i, hi⟩ := List.mem_iff_getElem?.mp ht
    obtain ⟨q, hq⟩ : ∃ q, es.zipIdx[i]? = some q := ⟨_, List.getElem?_eq_getElem (by rw [hzl]; exact (List.getElem?_eq_some_iff.mp hi).1)⟩
    have := hT i t q hi hq
    exact ⟨t, rfl, by rw [pairK_of this]; exact this⟩
  have hys := sorted_pairs_isort hs hst fun i x hx => by
    rw [List.getElem?_map] at hx
    obtain ⟨t, ht, rfl⟩ := Option.map_eq_some_iff.mp hx
    obtain ⟨q, hq⟩ : ∃ q, es.zipIdx[i]? = some q := ⟨_, List.getElem?_eq_getElem (by rw [hzl]; exact (List.getElem?_eq_some_iff.mp ht).1)⟩
    rw [pairK_of (hT i t q ht hq), (zI i q hq).1]
  have hzm : ∀ q ∈ es.zipIdx.zip us, H q.2 = some (.tup [.int (key q.1.1), .int ((q.1.2 : Nat) : Int)]) ∧ es[q.1.2]? = some q.1.1 := fun q hq => by
    obtain ⟨i, hi⟩ := List.mem_iff_getElem?.mp hq
    obtain ⟨e1, e2⟩ := List.getElem?_zip_eq_some.mp hi
    refine ⟨hT i _ _ e2 e1, ?_⟩
    rw [(zI i _ e1).1]
    exact (zI i _ e1).2
  have hus : us.map V.ref = (es.zipIdx.zip us).map fun q => V.ref q.2 := by
    conv => lhs; rw [← List.map_snd_zip (l₁ := es.zipIdx) (l₂ := us) (by omega)]
    rw [List.map_map]
    rfl
  refine ⟨sortBy (fun q : (α × Nat) × Addr => key q.1.1) (es.zipIdx.zip us), ?_, fun q hq => hzm q ((sortBy_perm _ _).mem_iff.mp hq), ?_⟩
  · rw [hys, hus, List.map_map]
    have e1 : ((es.zipIdx.zip us).map ((fun x => ((pairK H x).1, x)) ∘ fun q => V.ref q.2)) = ((es.zipIdx.zip us).map fun q => (key q.1.1, q)).map fun r => (r.1, V.ref r.2.2) := by
      rw [List.map_map]
      refine List.map_congr_left fun q hq => ?_
      show ((pairK H (V.ref q.2)).1, V.ref q.2) = (key q.1.1, V.ref q.2)
      rw [pairK_of (hzm q hq).1]
    rw [e1, isort_map (fun q : (α × Nat) × Addr => V.ref q.2), List.map_map]
    unfold sortBy
    rw [List.map_map]
    rfl
  · have e1 : (es.zipIdx.zip us).map (fun q => q.1.1) = es := by
      have h := List.map_fst_zip (l₁ := es.zipIdx) (l₂ := us) (by omega)
      have h2 : es.zipIdx.map Prod.fst = es := by simp
      have h4 : (es.zipIdx.zip us).map (fun q => q.1.1) = ((es.zipIdx.zip us).map Prod.fst).map Prod.fst := by rw [List.map_map]; rfl
      rw [h4, h, h2]
    have e2 := sortBy_map (fun q : (α × Nat) × Addr => q.1.1) (fun q => key q.1.1) key (es.zipIdx.zip us) (fun _ _ => rfl)
    conv => rhs; rw [← e1]
    exact e2.symm
end Sl

set_option Elab.async false
set_option linter.all false
set_option maxRecDepth 100000
set_option maxHeartbeats 1000000
namespace Sl
open PySem PySem.Spec L2 OwnR LamX
theorem foll_ge (fr : Str → Int) (ord : List Str) : ∀ r ∈ foll fr ord, fr r.1 ≤ r.2.1 := by
  have h : ∀ (l : List Str) (acc : List (RowT Str)), (∀ r ∈ acc, fr r.1 ≤ r.2.1) → ∀ r ∈ l.foldl (fun acc n => acc ++ [fnext fr acc n]) acc, fr r.1 ≤ r.2.1 := by
    intro l
    induction l with
    | nil => intro acc h; exact h
    | cons n q ih =>
      intro acc h
      rw [List.foldl_cons]
      refine ih _ fun r hr => ?_
      rcases List.mem_append.mp hr with hr | hr
      · exact h r hr
      · rw [List.mem_singleton.mp hr]
        unfold fnext
        split
        · exact Int.le_refl _
        · split
          · rename_i z
            exact Int.le_of_lt z
          · exact Int.le_refl _
  exact h ord [] (fun r hr => nomatch hr)
theorem tick_ge (pace : Str → Int) (p : Pl Str) (s : Sec) {n : Str} (hn : n ∈ p.ord) : freeP pace p s.2 n ≤ (stepP pace p s).tk n := by
  unfold stepP
  cases hw : s.1 with
  | true => exact Int.le_refl _
  | false =>
    show freeP pace p s.2 n ≤ tickOf (foll (freeP pace p s.2) p.ord) n
    obtain ⟨x, hx⟩ := look_some (acc := foll (freeP pace p s.2) p.ord) (n := n) (by rw [foll_names]; exact hn)
    have h2 := hx
    unfold look at h2
    obtain ⟨r, hr, e⟩ := Option.map_eq_some_iff.mp h2
    have hm := List.mem_of_find?_eq_some hr
    have hn2 : r.1 = n := by simpa using List.find?_some hr
    have := foll_ge (freeP pace p s.2) p.ord r hm
    unfold tickOf
    rw [hx, ← e]
    rw [hn2] at this
    exact this
theorem reach_ge {secs : List Sec} {cars : List Car} (CO : CarsOk cars) {c : Car} (hc : c ∈ cars) : ∀ k, k ≤ secs.length → startOf cars c.name + c.pace * ((((secs.take k).map (·.2)).sum : Nat) : Int) ≤ (plcC secs cars k).tk c.name
  | 0, _ => by
    show startOf cars c.name + c.pace * (((0 : Nat)) : Int) ≤ startOf cars c.name
    simp
  | k + 1, h => by
    have ih := reach_ge (secs := secs) CO hc k (by omega)
    have hkl : k < secs.length := by omega
    obtain ⟨s, hs⟩ : ∃ s, secs[k]? = some s := ⟨_, List.getElem?_eq_getElem hkl⟩
    have eN : plcC secs cars (k + 1) = stepP (paceOf cars) (plcC secs cars k) s := plc_succ (paceOf cars) (pl0 cars) secs hs
    have hm : c.name ∈ (plcC secs cars k).ord := (plcC_perm secs cars k).mem_iff.mpr (List.mem_map.mpr ⟨c, hc, rfl⟩)
    have hg := tick_ge (paceOf cars) (plcC secs cars k) s hm
    rw [eN]
    refine Int.le_trans ?_ hg
    unfold freeP
    rw [tk1 hs, List.map_append, List.sum_append, paceOf_car CO.nd hc]
    have e1 : ((((List.map (·.2) (secs.take k)).sum + (List.map (·.2) [s]).sum : Nat)) : Int) = (((List.map (·.2) (secs.take k)).sum : Nat) : Int) + ((s.2 : Nat) : Int) := by simp
    rw [e1, Int.mul_add]
    omega
theorem free_nonneg {secs : List Sec} {cars : List Car} (CO : CarsOk cars) {k : Nat} (hk : k ≤ secs.length) {n : Nat} {m : Str} (hm : m ∈ (plcC secs cars k).ord) : 0 ≤ freeP (paceOf cars) (plcC secs cars k) n m := by
  obtain ⟨c, hc, rfl⟩ := List.mem_map.mp ((plcC_perm secs cars k).mem_iff.mp hm)
  have h1 := reach_ge (secs := secs) CO hc k hk
  rw [startOf_car CO.nd hc] at h1
  have q := CO.all c hc
  have h2 := q.p0
  have h3 := Int.mul_nonneg (show (0 : Int) ≤ c.pace by omega) (Int.natCast_nonneg ((secs.take k).map (·.2)).sum)
  have h4 := Int.mul_nonneg (show (0 : Int) ≤ c.pace by omega) (Int.natCast_nonneg n)
  have h5 := q.s0
  unfold freeP
  rw [paceOf_car CO.nd hc]
  omega
theorem tk_nonneg {secs : List Sec} {cars : List Car} (CO : CarsOk cars) {k : Nat} (hk : k ≤ secs.length) {m : Str} (hm : m ∈ (plcC secs cars k).ord) : 0 ≤ (plcC secs cars k).tk m := by
  have := free_nonneg CO hk (n := 0) hm
  unfold freeP at this
  simpa using this
theorem ents_zero {cars : List Car} (nd : (names cars).Nodup) : entsP (paceOf cars) (pl0 cars) = (sortBy (·.start) cars).map fun c => (c.name, c.start, c.pace) := by
  unfold entsP pl0
  show (sortBy (startOf cars) (names cars)).map _ = _
  unfold names
  rw [sortBy_map (·.name) (·.start) (startOf cars) cars (fun c hc => startOf_car nd hc), List.map_map]
  refine List.map_congr_left fun c hc => ?_
  have hm : c ∈ cars := (sortBy_perm _ _).mem_iff.mp hc
  show (c.name, startOf cars c.name, paceOf cars c.name) = _
  rw [startOf_car nd hm, paceOf_car nd hm]
theorem ents_names (pace : Str → Int) (p : Pl Str) : (entsP pace p).map (·.1) = p.ord := by
  unfold entsP
  rw [List.map_map]
  exact List.map_id _
/-- the ticks of a place, behind those before it -/
def rowsE (es : List Ent) : List (RowT Str) := es.map fun e => (e.1, e.2.1, none)
theorem gOf_full {secs : List Sec} {cars : List Car} {i : Nat} {c : Car} (CO : CarsOk cars) (hc : c ∈ cars) :
    gOf (tkl secs cars i) (rowsE (entsP (paceOf cars) (plcC secs cars (i + 1)))) c.name = tkl secs cars (i + 1) c.name := by
  have hm : c.name ∈ (plcC secs cars (i + 1)).ord := (plcC_perm secs cars (i + 1)).mem_iff.mpr (List.mem_map.mpr ⟨c, hc, rfl⟩)
  obtain ⟨q, hq⟩ := List.mem_iff_getElem?.mp hm
  have nd2 : ((rowsE (entsP (paceOf cars) (plcC secs cars (i + 1)))).map (·.1)).Nodup := by
    unfold rowsE
    rw [List.map_map]
    have : ((fun x : RowT Str => x.1) ∘ fun e : Ent => (e.1, e.2.1, none)) = fun e : Ent => e.1 := rfl
    rw [this, ents_names]
    exact (plcC_perm secs cars (i + 1)).nodup_iff.mpr CO.nd
  have hr : (rowsE (entsP (paceOf cars) (plcC secs cars (i + 1))))[q]? = some (c.name, (plcC secs cars (i + 1)).tk c.name, none) := by
    unfold rowsE entsP
    rw [List.getElem?_map, List.getElem?_map, hq]
    rfl
  rw [gOf_in (look_get nd2 hr), tkl_succ]
end Sl

set_option Elab.async false
set_option linter.all false
set_option maxRecDepth 100000
set_option maxHeartbeats 1000000
namespace Sl
open PySem PySem.Spec L2 OwnR LamX
theorem DrW.nOL {H0 H : Hp} {secs : List Sec} {cars : List Car} {i : Nat} {g : Str → List Int} {TK OD LD : Addr} {ds os ls : List Addr} (D : DrW H0 H secs cars i g TK OD LD ds os ls) : OD ≠ LD := fun z => by
  have h1 := D.od
  have h2 := D.ld
  rw [z, h2] at h1
  have h3 : ls.map V.ref = os.map V.ref := by
    have := Option.some.inj h1
    injection this
  have := congrArg List.length h3
  rw [List.length_map, List.length_map, D.ol, D.ll] at this
  omega
theorem sameNew {H : Hp} {p : Addr} (h : H p = none) (o : HO) : Same H (upd H p o) := fun b x e => by rw [upd_ne (ne_of_none e h)]; exact e
section
variable {P : Program} {w : World} {K : PySem.W.Frag} {mg : Str → Option Value} {base : Heap}
def spDrivenW : Sp := fun vs H Q _ => ∃ (s a : Addr) (secs : List Sec) (cars : List Car), vs = [.ref s, .ref a] ∧ RunsAt H s secs ∧ TupsAt H a (cars.map Car.vs) ∧ SecsOk secs ∧ CarsOk cars ∧
  ∀ H' t tk od ld, Same H H' → H' t = some (.tup [.ref tk, .ref od, .ref ld]) → TksAt H' tk secs cars → OrdsAt H' od secs cars → LdsAt H' ld secs cars → H tk = none → H od = none → H ld = none → Q (.ref t) H'
def nDrivenW : List Str := ["_law_parts_here", "_law_cars_here", "_law_starts", "_law_start", "_law_entries", "_law_ticks", "_law_orders", "_law_leaders", "_law_name", "_law_pace", "_law_kind", "_law_length", "_law_led", "_law_tick", "_law_k", "_law_car"]
theorem scDrivenW : FnScope nDrivenW ["_law_parts_here", "_law_cars_here"] (defScope sDriven) := ⟨rfl, rfl, rfl, by decide +kernel, rfl, by decide +kernel, by decide +kernel⟩
theorem ok_drivenW {f fS : Addr} {fd dS : FuncData} (F : Fun K "_law_driven" "_law_driven" sDriven f fd) (M : Mg mg) (BS : Fb K mg "_law_section" sSection ["_law_kind", "_law_length", "_law_entries"] fS dS)
    (GS : FnOk P w K mg base CX0 1 fS dS ["_law_kind", "_law_length", "_law_entries"] spLSec) : FnOk P w K mg base CX0 2 f fd ["_law_parts_here", "_law_cars_here"] spDrivenW := by
  refine F.ok scDrivenW (fun vs H Q E h => ?_) (fun cdv A outer s H vs Q E hr h => ?_)
  · obtain ⟨s, a, secs, cars, rfl, _⟩ := h
    rfl
  · obtain ⟨sl, a, secs, cars, rfl, hR, hC, SO, CO, k⟩ := h
    have nd := scDrivenW.nd
    have hu := hu_of hr
    refine ⟨_, pss_cons (ps_set (i := 2) nd rfl (.inl rfl) (pe_callB cr_sortedPO (by rfl) M.sorted boot_sortedB (pa_cons (pe_lc (own := [("_law_k", 14)]) (g := gName 14) (tt := tYes) (te := tTup (tCons (tOp (rIxT K) (tOp (rIxL K) (tVar 1) (tVar 14)) (tC (.int 1))) (tCons (tVar 14) tNil))) (by rfl) nd (pi_range1 (by rfl) M.range (pa_cons (pe_callB call_len_seq (by rfl) M.len boot_len (pa_cons (pv 1) pa_nil)) pa_nil)) (blkOk_by (N := nDrivenW) (sc := defScope sDriven) (by decide +kernel))
          (fun _ _ _ _ _ => pg_name (i := 14) nd rfl (Or.inl rfl)) (fun _ _ _ _ _ => pts_nil) (fun _ _ _ _ _ => pe_tup (pa_cons (pe_ix (r := rIxT K) ix_tup (pe_ix (r := rIxL K) ix_list (pv 1) (pv 14) (fun _ _ => rfl)) pe_int (fun _ _ => rfl)) (pa_cons (pv 14) pa_nil)))) pa_nil)))
      (pss_cons (ps_setLc (i := 4) (own := [("_law_start", 3), ("_law_k", 14)]) (g := gTup K 2 (gCons (gName 3) (gCons (gName 14) gNil))) (tt := tYes) (te := tOp (rIxL K) (tVar 1) (tVar 14)) (by rfl) nd rfl rfl (sw_true rfl rfl rfl (by decide +kernel)) (pi_list (pv 2)) (blkOk_by (N := nDrivenW) (sc := defScope sDriven) (by decide +kernel))
          (fun _ _ _ _ _ => pg_tup rfl (pgs_cons (pg_name (i := 3) nd rfl (Or.inl rfl)) (pgs_cons (pg_name (i := 14) nd rfl (Or.inl rfl)) pgs_nil))) (fun _ _ _ _ _ => pts_nil) (fun _ _ _ _ _ => pe_ix (r := rIxL K) ix_list (pv 1) (pv 14) (fun _ _ => rfl)))
      (pss_cons (ps_par3 (i := 5) (j := 6) (l := 7) rfl nd rfl rfl rfl (by decide) (by decide) (by decide) rfl rfl rfl (pa_cons pe_dnewK (pa_cons (pe_lst (pa_cons (pe_lc (own := [("_law_car", 15)]) (g := gName 15) (tt := tYes) (te := tOp (rIxT K) (tVar 15) (tC (.int 0))) (by rfl) nd (pi_list (pv 4)) (blkOk_by (N := nDrivenW) (sc := defScope sDriven) (by decide +kernel))
          (fun _ _ _ _ _ => pg_name (i := 15) nd rfl (Or.inl rfl)) (fun _ _ _ _ _ => pts_nil) (fun _ _ _ _ _ => pe_ix (r := rIxT K) ix_tup (pv 15) pe_int (fun _ _ => rfl))) pa_nil)) (pa_cons (pe_lst pa_nil) pa_nil))) rfl)
      (pss_cons (ps_for PassesOwn.never rfl (pi_list (pv 1)) (pg_tup rfl (pgs_cons (pg_name (i := 8) nd rfl (.inl rfl)) (pgs_cons (pg_name (i := 3) nd rfl (.inl rfl)) (pgs_cons (pg_name (i := 9) nd rfl (.inl rfl)) pgs_nil))))
        (pss_one (ps_dput hu (pv 5) (pv 8) (pe_lst (pa_cons (pv 3) pa_nil)) rfl)))
      (pss_cons (ps_for PassesOwn.never rfl (pi_list (pv 0)) (pg_tup rfl (pgs_cons (pg_name (i := 10) nd rfl (.inl rfl)) (pgs_cons (pg_name (i := 11) nd rfl (.inl rfl)) pgs_nil)))
        (pss_cons (ps_asg (pe_call GS hr (by rfl) BS.at_ BS.fn.kp BS.bd .nil pass0 (pa_cons (pv 10) (pa_cons (pv 11) (pa_cons (pv 4) pa_nil)))) (pg_tup rfl (pgs_cons (pg_name (i := 4) nd rfl (.inl rfl)) (pgs_cons (pg_name (i := 12) nd rfl (.inl rfl)) pgs_nil))))
        (pss_cons (ps_for PassesOwn.never rfl (pi_list (pv 4)) (pg_tup rfl (pgs_cons (pg_name (i := 8) nd rfl (.inl rfl)) (pgs_cons (pg_name (i := 13) nd rfl (.inl rfl)) (pgs_cons (pg_name (i := 9) nd rfl (.inl rfl)) pgs_nil))))
          (pss_one (ps_expr (pe_bm PySem.F.plainAttrs_list PySem.F.slot_list_append PySem.F.type_list_append mt_append (pe_dget hu (pv 5) (pv 8) (fun _ _ => rfl)) (pa_cons (pv 13) pa_nil)))))
        (pss_cons (ps_expr (pe_bm PySem.F.plainAttrs_list PySem.F.slot_list_append PySem.F.type_list_append mt_append (pv 6) (pa_cons (pe_lc (own := [("_law_car", 15)]) (g := gName 15) (tt := tYes) (te := tOp (rIxT K) (tVar 15) (tC (.int 0))) (by rfl) nd (pi_list (pv 4)) (blkOk_by (N := nDrivenW) (sc := defScope sDriven) (by decide +kernel))
          (fun _ _ _ _ _ => pg_name (i := 15) nd rfl (Or.inl rfl)) (fun _ _ _ _ _ => pts_nil) (fun _ _ _ _ _ => pe_ix (r := rIxT K) ix_tup (pv 15) pe_int (fun _ _ => rfl))) pa_nil)))
        (pss_one (ps_expr (pe_bm PySem.F.plainAttrs_list PySem.F.slot_list_append PySem.F.type_list_append mt_append (pv 7) (pa_cons (pv 12) pa_nil))))))))
      (pss_one (ps_ret (pe_tup (pa_cons (pv 5) (pa_cons (pv 6) (pa_cons (pv 7) pa_nil)))))))))), ?_⟩
    have ndn : (names cars).Nodup := CO.nd
    obtain ⟨ts, a1, a2, a3⟩ := id hC
    rw [List.length_map] at a2
    have hal : (ts.map V.ref).length = cars.length := by rw [List.length_map, a2]
    have few := CO.few
    have carAt : ∀ (i : Nat) (c : Car), cars[i]? = some c → ∃ t, ts[i]? = some t ∧ H t = some (.tup c.vs) := fun i c e => by
      obtain ⟨t, ht⟩ : ∃ t, ts[i]? = some t := ⟨_, List.getElem?_eq_getElem (by rw [a2]; exact (List.getElem?_eq_some_iff.mp e).1)⟩
      exact ⟨t, ht, a3 i t c.vs ht (by rw [List.getElem?_map, e]; rfl)⟩
    refine ⟨_, rfl, a, _, rfl, .inl (SqL.of a1), (((ts.map V.ref).length : Nat) : Int), rfl, by omega, by omega, fun W hW => ?_⟩
    rw [Int.toNat_natCast, hal]
    refine lc_it walk_range (fun i H1 => Same H H1 ∧ TupsAt H1 W ((cars.take i).zipIdx.map fun q => [V.int q.1.start, V.int ((q.2 : Nat) : Int)]))
      ⟨sameNew hW _, tups_nil upd_same⟩ (fun _ _ _ _ => True.intro) ?_ ?_
    · rintro i z H1 H2 hi ⟨k1, T1⟩ ⟨e, ez⟩
      have ez2 : z = V.int ((i : Nat) : Int) := by
        rw [ez]
        show V.int (0 + ((i : Nat) : Int)) = _
        rw [Int.zero_add]
      clear ez
      subst e ez2
      obtain ⟨c, hc⟩ : ∃ x, cars[i]? = some x := ⟨_, List.getElem?_eq_getElem hi⟩
      obtain ⟨t, ht, htv⟩ := carAt i c hc
      obtain ⟨us, u1, u2, u3⟩ := id T1
      refine ⟨rfl, yes_of ?_⟩
      refine ⟨_, rfl, _, rfl, a, _, _, _, rfl, rfl, SqL.of (k1 _ _ a1), atI_nat (map_at V.ref ht), t, _, _, _, rfl, rfl, SqT.of (k1 _ _ htv), rfl, ?_⟩
      refine ⟨_, rfl, by show 2 ≤ sizeLine; decide, fun x hx => ?_⟩
      refine ⟨us.map V.ref, by rw [upd_ne (ne_of_none u1 hx)]; exact u1, ?_, fun p o e => ?_, ?_⟩
      · rw [List.length_map, u2, List.length_map, List.length_zipIdx, List.length_take]
        exact small1000 (by omega)
      · have e4 := k1 _ _ e
        rw [upd_ne (ne_of_none e hW), upd_ne (ne_of_none e4 hx)]
        exact e4
      · have := tups_push u1 u2 u3 hx [V.int c.start, V.int ((i : Nat) : Int)]
        have e2 : (cars.take (i + 1)).zipIdx.map (fun q => [V.int q.1.start, V.int ((q.2 : Nat) : Int)]) = (cars.take i).zipIdx.map (fun q => [V.int q.1.start, V.int ((q.2 : Nat) : Int)]) ++ [[V.int c.start, V.int ((i : Nat) : Int)]] := by
          rw [List.take_succ, hc, List.zipIdx_append, List.map_append, List.length_take, Nat.min_eq_left (Nat.le_of_lt hi)]
          simp
        rw [e2]
        exact this
    · rintro H1 ⟨k1, T1⟩
      rw [List.take_length] at T1
      obtain ⟨us, u1, u2, u3⟩ := T1
      rw [List.length_map, List.length_zipIdx] at u2
      obtain ⟨q1, q2⟩ := sorted_idx (es := cars) (key := (·.start)) (us := us) (H := H1) u2 fun i t c e1 e2 => u3 i t _ e1 (by rw [List.getElem?_map, List.getElem?_zipIdx, e2]; simp)
      refine ⟨W, us.map V.ref, pairK H1, rfl, SqL.of u1, q1, fun ys p hs hst hp => ?_⟩
      obtain ⟨L, rfl, hL, hLs⟩ := q2 ys hs hst
      have hLl : L.length = cars.length := by
        have := congrArg List.length hLs
        rw [List.length_map, (sortBy_perm _ _).length_eq] at this
        exact this
      have S2 : Same H (upd H1 p (.lst (L.map fun q => V.ref q.2))) := k1.trans (sameNew hp _)
      have hp2 : upd H1 p (.lst (L.map fun q => V.ref q.2)) p = some (.lst (L.map fun q => V.ref q.2)) := upd_same
      have hL2 : ∀ q ∈ L, upd H1 p (.lst (L.map fun q => V.ref q.2)) q.2 = some (.tup [.int q.1.1.start, .int ((q.1.2 : Nat) : Int)]) := fun q hq => sameNew hp _ _ _ (hL q hq).1
      have hL3 : ∀ q ∈ L, cars[q.1.2]? = some q.1.1 := fun q hq => (hL q hq).2
      show tSeq _ _ _ _ (upd H1 p (.lst (L.map fun q => V.ref q.2)))
      generalize upd H1 p (.lst (L.map fun q => V.ref q.2)) = H2 at S2 hp2 hL2 ⊢
      clear hL q1 q2 u1 u2 u3 k1 hs hst hp
      refine ⟨_, rfl, p, rfl, ⟨_, SqL.of hp2⟩, fun E hE => ?_⟩
      refine lc_it walk_list (fun i H3 => Same H2 H3 ∧ H3 E = some (.lst (((L.take i).map fun q => ts.getD q.1.2 0).map V.ref)))
        ⟨sameNew hE _, upd_same⟩ (fun i H3 _ ⟨k3, _⟩ => SqL.of (k3 _ _ hp2)) ?_ ?_
      · rintro i z H3 H4 hi ⟨k3, hE3⟩ ⟨e, hz⟩
        subst e
        obtain ⟨q, hq, rfl⟩ : ∃ q, L[i]? = some q ∧ z = V.ref q.2 := by
          rw [List.getElem?_map] at hz
          obtain ⟨t, z1, z2⟩ := Option.map_eq_some_iff.mp hz
          exact ⟨t, z1, z2.symm⟩
        have hmq := List.mem_of_getElem? hq
        obtain ⟨t, ht, htv⟩ := carAt _ _ (hL3 q hmq)
        refine ⟨q.2, _, rfl, SqT.of (k3 _ _ (hL2 q hmq)), rfl, _, _, rfl, _, _, rfl, rfl, ?_⟩
        refine ⟨rfl, yes_of ?_⟩
        refine ⟨_, rfl, _, rfl, a, _, _, .ref t, rfl, rfl, SqL.of (k3 _ _ (S2 _ _ a1)), atI_nat (map_at V.ref ht), ?_⟩
        refine ⟨_, hE3, ?_, fun b o e => ?_, ?_⟩
        · rw [List.length_map, List.length_map, List.length_take]
          exact small1000 (by omega)
        · rw [upd_ne (ne_of_none e hE)]
          exact k3 _ _ e
        · rw [upd_same, List.take_succ, hq, List.map_append, List.map_append]
          show _ = some (HO.lst (_ ++ [V.ref (ts.getD q.1.2 0)]))
          rw [List.getD_eq_getElem?_getD, ht]
          rfl
      · rintro H3 ⟨k3, hE3⟩
        rw [List.length_map, List.take_length] at hE3
        have S3 := S2.trans k3
        have nEH : H E = none := none_back S2 hE
        have TE : TupsAt H3 E ((entsP (paceOf cars) (plcC secs cars 0)).map entV) := by
          have e0 : (entsP (paceOf cars) (plcC secs cars 0)).map entV = L.map fun q => q.1.1.vs := by
            show (entsP (paceOf cars) (pl0 cars)).map entV = _
            rw [ents_zero ndn, ← hLs, List.map_map, List.map_map]
            rfl
          rw [e0]
          refine ⟨_, hE3, by rw [List.length_map, List.length_map], fun i t v e1 e2 => ?_⟩
          rw [List.getElem?_map] at e1 e2
          obtain ⟨q, hq, rfl⟩ := Option.map_eq_some_iff.mp e2
          rw [hq] at e1
          obtain ⟨t', ht', htv⟩ := carAt _ _ (hL3 q (List.mem_of_getElem? hq))
          have : t' = t := by
            have : ts.getD q.1.2 0 = t := Option.some.inj e1
            rw [List.getD_eq_getElem?_getD, ht'] at this
            exact this
          rw [← this]
          exact S3 _ _ htv
        clear hL2 hL3 hp2 hE3 k3 S2 hE
        intro TK hTK
        have S4 := S3.trans (sameNew hTK (.dK []))
        have hTK4 : upd H3 TK (.dK []) TK = some (.dK []) := upd_same
        have TE4 := TE.same (sameNew hTK (.dK []))
        have nTK : H TK = none := none_back S3 hTK
        generalize upd H3 TK (.dK []) = H4 at S4 hTK4 TE4 ⊢
        obtain ⟨es, e1, e2, e3⟩ := id TE4
        rw [List.length_map] at e2
        have hents : (entsP (paceOf cars) (plcC secs cars 0)).length = (pl0 cars).ord.length := by
          show (entsP (paceOf cars) (pl0 cars)).length = _
          unfold entsP
          rw [List.length_map]
        refine ⟨_, rfl, E, rfl, ⟨_, SqL.of e1⟩, fun O1 hO1 => ?_⟩
        refine lc_it walk_list (fun i H5 => Same H4 H5 ∧ H5 O1 = some (.lst (((pl0 cars).ord.take i).map V.str)))
          ⟨sameNew hO1 _, upd_same⟩ (fun i H5 _ ⟨k5, _⟩ => SqL.of (k5 _ _ e1)) ?_ ?_
        · rintro i z H5 H6 hi ⟨k5, hO⟩ ⟨e, hz⟩
          subst e
          obtain ⟨t, ht, rfl⟩ : ∃ t, es[i]? = some t ∧ z = V.ref t := by
            rw [List.getElem?_map] at hz
            obtain ⟨t, z1, z2⟩ := Option.map_eq_some_iff.mp hz
            exact ⟨t, z1, z2.symm⟩
          have hil : i < (pl0 cars).ord.length := by
            rw [List.length_map, e2, hents] at hi
            exact hi
          obtain ⟨m, hm⟩ : ∃ m, (pl0 cars).ord[i]? = some m := ⟨_, List.getElem?_eq_getElem hil⟩
          have htv := k5 _ _ (e3 i t (entV (entP (paceOf cars) (pl0 cars) m)) ht (by rw [List.getElem?_map]; show ((entsP (paceOf cars) (pl0 cars))[i]?).map entV = _; unfold entsP; rw [List.getElem?_map, hm]; rfl))
          refine ⟨rfl, yes_of ?_⟩
          refine ⟨_, rfl, t, _, _, _, rfl, rfl, SqT.of htv, rfl, _, hO, ?_, fun b o e => ?_, ?_⟩
          · rw [List.length_map, List.length_take]
            have := (pl0_perm cars).length_eq
            unfold names at this
            rw [List.length_map] at this
            exact small1000 (by omega)
          · rw [upd_ne (ne_of_none e hO1)]
            exact k5 _ _ e
          · rw [upd_same, List.take_succ, hm, List.map_append]
            rfl
        · rintro H5 ⟨k5, hO⟩
          rw [List.length_map, e2, hents, List.take_length] at hO
          have S5 := S4.trans k5
          have hTK5 := k5 _ _ hTK4
          have TE5 := TE4.same k5
          clear e1 e2 e3 hents TE4 hTK4 hO1 k5 S4 TE
          refine ⟨by show 1 ≤ sizeLine; decide, fun OD hOD => ⟨Nat.zero_le _, fun LD hLD => ⟨_, _, _, rfl, ?_⟩⟩⟩
          have Sa := sameNew hOD (.lst [.ref O1])
          have Sb := sameNew hLD (.lst [])
          have nODH : H OD = none := none_back S5 hOD
          have nLDH : H LD = none := none_back (S5.trans Sa) hLD
          have hOD6 : upd (upd H5 OD (.lst [.ref O1])) LD (.lst []) OD = some (.lst [.ref O1]) := Sb _ _ upd_same
          have hLD6 : upd (upd H5 OD (.lst [.ref O1])) LD (.lst []) LD = some (.lst []) := upd_same
          have nOL1 : O1 ≠ LD := ne_of_none (Sa _ _ hO) hLD
          have hO6 := Sb _ _ (Sa _ _ hO)
          have hTK6 := Sb _ _ (Sa _ _ hTK5)
          have TE6 := (TE5.same Sa).same Sb
          have S6 := (S5.trans Sa).trans Sb
          show tSeq _ _ _ _ (upd (upd H5 OD (.lst [.ref O1])) LD (.lst []))
          generalize upd (upd H5 OD (.lst [.ref O1])) LD (.lst []) = H6 at hOD6 hLD6 hO6 hTK6 TE6 S6 ⊢
          clear Sa Sb hO hTK5 TE5 S5 hOD hLD
          refine ⟨_, rfl, a, rfl, ⟨_, SqL.of (S6 _ _ a1)⟩, for_it walk_list (fun i σ H7 => ∃ v3 v8 v9 kt ds, σ = [some (.ref sl), some (.ref a), some (.ref p), v3, some (.ref E), some (.ref TK), some (.ref OD), some (.ref LD), v8, v9, none, none, none, none, none, none] ∧
              KeepB TK H6 H7 ∧ H7 TK = some (.dK kt) ∧ kt.length ≤ i ∧ ds.length = i ∧ ds.Nodup ∧ (∀ d ∈ ds, H6 d = none) ∧ ∀ (q : Nat) (c : Car) (d : Addr), cars[q]? = some c → ds[q]? = some d → valV kt (Sum.inr c.name : Key) = some (.ref d) ∧ H7 d = some (.lst [.int c.start]))
            ⟨none, none, none, [], [], rfl, KeepB.refl _ _, hTK6, Nat.le_refl _, rfl, List.nodup_nil, fun d hd => (nomatch hd), fun q c d _ h => by simp at h⟩
            (fun i σ H7 _ ⟨_, _, _, _, _, _, k7, _⟩ => SqL.of (k7 _ _ (S6 _ _ a1) (ne_of_none a1 nTK))) ?_ ?_⟩
          · rintro i y σ Hz H7 hi ⟨v3, v8, v9, kt, ds, rfl, k7, hK, lk, dl, dn, dnew, dv⟩ ⟨e, hy⟩
            subst e
            obtain ⟨t, ht, rfl⟩ : ∃ t, ts[i]? = some t ∧ y = V.ref t := by
              rw [List.getElem?_map] at hy
              obtain ⟨t, z1, z2⟩ := Option.map_eq_some_iff.mp hy
              exact ⟨t, z1, z2.symm⟩
            rw [hal] at hi
            obtain ⟨c, hc⟩ : ∃ c, cars[i]? = some c := ⟨_, List.getElem?_eq_getElem hi⟩
            obtain ⟨t', ht', htv⟩ := carAt i c hc
            have : t' = t := by
              rw [ht] at ht'
              exact (Option.some.inj ht').symm
            subst this
            have htv7 := k7 _ _ (S6 _ _ htv) (ne_of_none htv nTK)
            refine ⟨t', _, rfl, SqT.of htv7, rfl, _, _, rfl, _, _, rfl, _, _, rfl, rfl, ?_⟩
            refine ⟨_, rfl, by show 1 ≤ sizeLine; decide, fun d hd => ?_⟩
            have nTd : TK ≠ d := ne_of_none hK hd
            refine ⟨_, rfl, _, rfl, TK, _, rfl, DPut.k (k := (Sum.inr c.name : Key)) (by rw [upd_ne nTd]; exact hK) (small1000 (by omega)), ?_⟩
            have hdv : ∀ (q : Nat) (c' : Car) (d' : Addr), cars[q]? = some c' → ds[q]? = some d' → d' ≠ d := fun q c' d' h1 h2 => ne_of_none (dv q c' d' h1 h2).2 hd
            refine ⟨_, _, _, _, ds ++ [d], rfl, fun b o e n => ?_, upd_same, Nat.le_trans (length_putK _ _ _) (by omega), by rw [List.length_append, dl]; rfl, ?_, fun d' hd' => ?_, fun q c' d' h1 h2 => ?_⟩
            · rw [upd_ne n, upd_ne (ne_of_none (k7 b o e n) hd)]
              exact k7 b o e n
            · refine List.nodup_append.mpr ⟨dn, by simp, fun x hx y hy => ?_⟩
              rw [List.mem_singleton.mp hy]
              obtain ⟨q, hq⟩ := List.mem_iff_getElem?.mp hx
              have hql : q < cars.length := by
                have := (List.getElem?_eq_some_iff.mp hq).1
                omega
              exact hdv q _ x (List.getElem?_eq_getElem hql) hq
            · rcases List.mem_append.mp hd' with hd' | hd'
              · exact dnew d' hd'
              · rw [List.mem_singleton.mp hd']
                cases e : H6 d with
                | none => rfl
                | some o =>
                  rw [k7 d o e nTd.symm] at hd
                  cases hd
            · rcases snoc_get h2 with h2 | ⟨hq, rfl⟩
              · obtain ⟨y1, y2⟩ := dv q c' d' h1 h2
                have hne : ¬ c'.name = c.name := fun z => by
                  have b1 : (names cars)[q]? = some c.name := by unfold names; rw [List.getElem?_map, h1]; exact congrArg some z
                  have b2 : (names cars)[i]? = some c.name := by unfold names; rw [List.getElem?_map, hc]; rfl
                  have := nd_ix ndn b1 b2
                  have := (List.getElem?_eq_some_iff.mp h2).1
                  omega
                rw [valV_putS, if_neg hne]
                exact ⟨y1, by rw [upd_ne (ne_of y2 hK (by intro z; cases z)), upd_ne (hdv q c' d' h1 h2)]; exact y2⟩
              · rw [dl] at hq
                subst hq
                rw [hc] at h1
                cases h1
                rw [valV_putS, if_pos rfl]
                exact ⟨rfl, by rw [upd_ne nTd.symm, upd_same]⟩
          · rintro σ H7 ⟨v3, v8, v9, kt, ds, rfl, k7, hK, lk, dl, dn, dnew, dv⟩
            rw [hal] at dl
            have sm7 : Same H H7 := fun b o e => k7 b o (S6 _ _ e) (ne_of_none e nTK)
            have nodT : ∀ b xs, H6 b = some (.lst xs) → b ≠ TK := fun b xs e => ne_of e hTK6 (by intro z; cases z)
            have D0 : DrW H H7 secs cars 0 (tkl secs cars 0) TK OD LD ds [O1] [] := by
              refine { sm := sm7, tk := ⟨kt, hK, fun q c d h1 h2 => (dv q c d h1 h2).1⟩, dl := dl, dv := fun q c d h1 h2 => ?_, gne := fun n => ?_, dn := dn, dnew := fun d hd => none_back S6 (dnew d hd), od := k7 _ _ hOD6 (nodT _ _ hOD6), ol := rfl, ov := ?_, odn := nODH, ld := k7 _ _ hLD6 (nodT _ _ hLD6), ll := rfl, lv := ?_, ldn := nLDH, osl := fun d hd => ?_ }
              · rw [(dv q c d h1 h2).2]
                show _ = some (HO.lst [V.int (startOf cars c.name)])
                rw [startOf_car ndn (List.mem_of_getElem? h1)]
              · obtain ⟨l, hl⟩ := tkl_last secs cars 0 n
                rw [hl]
                simp
              · intro k d h
                have : k = 0 ∧ O1 = d := by
                  cases k with
                  | zero => exact ⟨rfl, by simpa using h⟩
                  | succ k => simp at h
                obtain ⟨rfl, rfl⟩ := this
                exact k7 _ _ hO6 (nodT _ _ hO6)
              · intro k d h
                simp at h
              · rw [List.mem_singleton.mp hd]
                exact nOL1
            have T0 : TupsAt H7 E ((entsP (paceOf cars) (plcC secs cars 0)).map entV) := by
              obtain ⟨es, e1, e2, e3⟩ := TE6
              exact ⟨es, k7 _ _ e1 (nodT _ _ e1), e2, fun i t v h1 h2 => k7 _ _ (e3 i t v h1 h2) (ne_of (e3 i t v h1 h2) hTK6 (by intro z; cases z))⟩
            clear k7 hK lk dn dnew dv sm7 nodT TE6 hO6 hTK6 hOD6 hLD6 S6 nOL1 hal carAt
            obtain ⟨rs, r1, r2, r3⟩ := id hR
            have hrl : (rs.map V.ref).length = secs.length := by rw [List.length_map, r2]
            refine ⟨_, rfl, sl, rfl, ⟨_, SqL.of (D0.sm _ _ r1)⟩, for_it walk_list (fun i σ H8 => ∃ v3 E v8 v9 v10 v11 v12 v13 os ls, σ = [some (.ref sl), some (.ref a), some (.ref p), v3, some (.ref E), some (.ref TK), some (.ref OD), some (.ref LD), v8, v9, v10, v11, v12, v13, none, none] ∧
                DrW H H8 secs cars i (tkl secs cars i) TK OD LD ds os ls ∧ TupsAt H8 E ((entsP (paceOf cars) (plcC secs cars i)).map entV))
              ⟨_, E, _, _, _, _, _, _, [O1], [], rfl, D0, T0⟩ (fun i σ H8 _ ⟨_, _, _, _, _, _, _, _, _, _, _, D, _⟩ => SqL.of (D.sm _ _ r1)) ?_ ?_⟩
            · rintro i y σ Hz H8 hi ⟨v3', E', v8', v9', v10, v11, v12, v13, os, ls, rfl, D, T8⟩ ⟨e, hy⟩
              subst e
              obtain ⟨t, ht, rfl⟩ : ∃ t, rs[i]? = some t ∧ y = V.ref t := by
                rw [List.getElem?_map] at hy
                obtain ⟨t, z1, z2⟩ := Option.map_eq_some_iff.mp hy
                exact ⟨t, z1, z2.symm⟩
              rw [hrl] at hi
              have hs : secs[i]? = some secs[i] := List.getElem?_eq_getElem hi
              have hct := D.sm _ _ (r3 i t _ ht hs)
              have c0 := SO.len _ (List.getElem_mem hi)
              have hfew := SO.few
              refine ⟨t, _, rfl, SqT.of hct, rfl, _, _, rfl, _, _, rfl, rfl, ?_⟩
              generalize secs[i] = sn at hs hct c0 ⊢
              have hperm := plcC_perm secs cars i
              have eN : plcC secs cars (i + 1) = stepP (paceOf cars) (plcC secs cars i) sn := plc_succ (paceOf cars) (pl0 cars) secs hs
              have eL : ∀ n, ldrC secs cars i n = leadP (paceOf cars) (plcC secs cars i) sn n := fun n => by
                show ldr (paceOf cars) (pl0 cars) secs i n = _
                unfold ldr
                rw [hs]
              have h0 : ∀ m ∈ (plcC secs cars i).ord, 0 ≤ freeP (paceOf cars) (plcC secs cars i) sn.2 m := fun m hm => free_nonneg CO (Nat.le_of_lt hi) hm
              have hndo : (plcC secs cars i).ord.Nodup := hperm.nodup_iff.mpr ndn
              have hol : (plcC secs cars i).ord.length ≤ 10 := by
                rw [hperm.length_eq]
                unfold names
                rw [List.length_map]
                exact few
              refine ⟨_, rfl, _, rfl, _, rfl, sn.1, sn.2, E', entsP (paceOf cars) (plcC secs cars i), rfl, T8, by unfold entsP; rw [List.length_map]; exact hol, c0.2, fun x hx => ?_, by rw [ents_names]; exact hndo, fun H9 t9 x l kv s9 ht9 Tx hl9 hkv nx nl => ?_⟩
              · obtain ⟨m, hm, rfl⟩ := List.mem_map.mp hx
                obtain ⟨c, hc, rfl⟩ := List.mem_map.mp (hperm.mem_iff.mp hm)
                have q := CO.all c hc
                refine ⟨tk_nonneg CO (Nat.le_of_lt hi) hm, ?_, ?_⟩
                · show 0 ≤ paceOf cars c.name
                  rw [paceOf_car ndn hc]
                  have := q.p0
                  omega
                · show paceOf cars c.name ≤ 60
                  rw [paceOf_car ndn hc]
                  exact q.p1
              rw [outS_step hndo h0, ← eN] at Tx
              have hkv2 : ∀ n, valV kv (Sum.inr n : Key) = (ldrC secs cars i n).map V.str := fun n => by rw [hkv n, ldS_lead h0, eL]
              have nxO : x ≠ OD := (ne_of_none D.od nx).symm
              have nxL : x ≠ LD := (ne_of_none D.ld nx).symm
              have hperm1 := plcC_perm secs cars (i + 1)
              have hol1 : (plcC secs cars (i + 1)).ord.length ≤ 10 := by
                rw [hperm1.length_eq]
                unfold names
                rw [List.length_map]
                exact few
              have hndo1 : (plcC secs cars (i + 1)).ord.Nodup := hperm1.nodup_iff.mpr ndn
              have D9 := D.step s9
              clear hkv eN eL h0 nx nl T8
              refine ⟨t9, _, rfl, SqT.of ht9, rfl, _, _, rfl, _, _, rfl, rfl, ?_⟩
              have hxl : ((entsP (paceOf cars) (plcC secs cars (i + 1))).map entV).length = (plcC secs cars (i + 1)).ord.length := by
                unfold entsP
                rw [List.length_map, List.length_map]
              obtain ⟨xs, x1, x2, x3⟩ := id Tx
              rw [hxl] at x2
              have hxs : (xs.map V.ref).length = (plcC secs cars (i + 1)).ord.length := by rw [List.length_map, x2]
              refine ⟨_, rfl, x, rfl, ⟨_, SqL.of x1⟩, for_it walk_list (fun j σ H10 => ∃ v3 v8 v9 v13, σ = [some (.ref sl), some (.ref a), some (.ref p), v3, some (.ref x), some (.ref TK), some (.ref OD), some (.ref LD), v8, v9, some (.str (kindS sn.1)), some (.int ((sn.2 : Nat) : Int)), some (.ref l), v13, none, none] ∧
                  DrW H H10 secs cars i (gOf (tkl secs cars i) (rowsE ((entsP (paceOf cars) (plcC secs cars (i + 1))).take j))) TK OD LD ds os ls ∧ H10 x = some (.lst (xs.map V.ref)) ∧ (∀ (i' : Nat) (t : Addr) (v : List V), xs[i']? = some t → ((entsP (paceOf cars) (plcC secs cars (i + 1))).map entV)[i']? = some v → H10 t = some (.tup v)) ∧ H10 l = some (.dK kv))
                ⟨_, _, _, _, rfl, by rw [List.take_zero, show rowsE [] = [] from rfl, gOf_nil]; exact D9, x1, x3, hl9⟩ (fun j σ H10 _ ⟨_, _, _, _, _, _, y1, _⟩ => SqL.of y1) ?_ ?_⟩
              · rintro j y σ Hz H10 hj ⟨w3, w8, w9, w13, rfl, D10, y1, y3, hl10⟩ ⟨e, hy⟩
                subst e
                obtain ⟨t, ht, rfl⟩ : ∃ t, xs[j]? = some t ∧ y = V.ref t := by
                  rw [List.getElem?_map] at hy
                  obtain ⟨t, z1, z2⟩ := Option.map_eq_some_iff.mp hy
                  exact ⟨t, z1, z2.symm⟩
                rw [hxs] at hj
                obtain ⟨m, hm⟩ : ∃ m, (plcC secs cars (i + 1)).ord[j]? = some m := ⟨_, List.getElem?_eq_getElem hj⟩
                have hem : (entsP (paceOf cars) (plcC secs cars (i + 1)))[j]? = some (entP (paceOf cars) (plcC secs cars (i + 1)) m) := by unfold entsP; rw [List.getElem?_map, hm]; rfl
                have htv := y3 j t _ ht (by rw [List.getElem?_map, hem]; rfl)
                obtain ⟨c, hc, rfl⟩ := List.mem_map.mp (hperm1.mem_iff.mp (List.mem_of_getElem? hm))
                obtain ⟨q, hq⟩ := List.mem_iff_getElem?.mp hc
                obtain ⟨d, hd⟩ : ∃ d, ds[q]? = some d := ⟨_, List.getElem?_eq_getElem (by rw [D10.dl]; exact (List.getElem?_eq_some_iff.mp hq).1)⟩
                obtain ⟨kt, hK, hKv⟩ := D10.tk
                have hdv := D10.dv q c d hq hd
                have hnw : c.name ∉ (rowsE ((entsP (paceOf cars) (plcC secs cars (i + 1))).take j)).map (·.1) := by
                  have e1 : (rowsE ((entsP (paceOf cars) (plcC secs cars (i + 1))).take j)).map (·.1) = ((entsP (paceOf cars) (plcC secs cars (i + 1))).take j).map (·.1) := by
                    unfold rowsE
                    rw [List.map_map]
                    rfl
                  rw [e1]
                  exact ents_new (by rw [ents_names]; exact hndo1) hem
                have hlen : (gOf (tkl secs cars i) (rowsE ((entsP (paceOf cars) (plcC secs cars (i + 1))).take j)) c.name).length = i + 1 := by
                  unfold gOf
                  rw [look_none hnw]
                  show (tkl secs cars i c.name ++ []).length = _
                  unfold tkl
                  simp
                refine ⟨t, _, rfl, SqT.of htv, rfl, _, _, rfl, _, _, rfl, _, _, rfl, rfl, ?_⟩
                refine ⟨_, rfl, _, rfl, TK, _, rfl, gk hK (hKv q c d hq hd), .inl ⟨rfl, _, SqL.of hdv⟩, _, rfl, d, _, _, rfl, rfl, hdv, by rw [List.length_map, hlen]; exact small1000 (by omega), ?_⟩
                have D11 := D10.tick ndn hq hd ((plcC secs cars (i + 1)).tk c.name)
                have e5 : (fun n => if n = c.name then gOf (tkl secs cars i) (rowsE ((entsP (paceOf cars) (plcC secs cars (i + 1))).take j)) c.name ++ [(plcC secs cars (i + 1)).tk c.name] else gOf (tkl secs cars i) (rowsE ((entsP (paceOf cars) (plcC secs cars (i + 1))).take j)) n) = gOf (tkl secs cars i) (rowsE ((entsP (paceOf cars) (plcC secs cars (i + 1))).take (j + 1))) := by
                  have := gOf_snoc (tkl secs cars i) (rowsE ((entsP (paceOf cars) (plcC secs cars (i + 1))).take j)) (c.name, (plcC secs cars (i + 1)).tk c.name, none) hnw
                  have e6 : rowsE ((entsP (paceOf cars) (plcC secs cars (i + 1))).take (j + 1)) = rowsE ((entsP (paceOf cars) (plcC secs cars (i + 1))).take j) ++ [(c.name, (plcC secs cars (i + 1)).tk c.name, none)] := by
                    unfold rowsE
                    rw [List.take_add_one, hem, List.map_append]
                    rfl
                  rw [e6, ← this]
                rw [e5] at D11
                have nel := D10.gne c.name
                refine ⟨_, _, _, _, rfl, D11, by rw [upd_ne (ne_of y1 hdv (ints_ref nel).symm)]; exact y1, fun i' t' v' h1 h2 => by rw [upd_ne (ne_of (y3 i' t' v' h1 h2) hdv (by intro z; cases z))]; exact y3 i' t' v' h1 h2, by rw [upd_ne (ne_of hl10 hdv (by intro z; cases z))]; exact hl10⟩
              · rintro σ H10 ⟨w3, w8, w9, w13, rfl, D10, y1, y3, hl10⟩
                have htk : (entsP (paceOf cars) (plcC secs cars (i + 1))).take (xs.map V.ref).length = entsP (paceOf cars) (plcC secs cars (i + 1)) := by
                  rw [hxs]
                  rw [List.length_map] at hxl
                  rw [← hxl, List.take_length]
                rw [htk] at D10
                have D11 := D10.congr (g' := tkl secs cars (i + 1)) (fun c hc => gOf_full CO hc) (fun n => by
                  obtain ⟨l, hl⟩ := tkl_last secs cars (i + 1) n
                  rw [hl]
                  simp)
                refine ⟨_, rfl, .inl ⟨rfl, _, SqL.of D11.od⟩, _, rfl, x, rfl, ⟨_, SqL.of y1⟩, fun O2 hO2 => ?_⟩
                refine lc_it walk_list (fun j H12 => Same H10 H12 ∧ H12 O2 = some (.lst (((plcC secs cars (i + 1)).ord.take j).map V.str)))
                  ⟨sameNew hO2 _, upd_same⟩ (fun j H12 _ ⟨k12, _⟩ => SqL.of (k12 _ _ y1)) ?_ ?_
                · rintro j z Hz H12 hj ⟨k12, hO12⟩ ⟨e, hz⟩
                  subst e
                  obtain ⟨t, ht, rfl⟩ : ∃ t, xs[j]? = some t ∧ z = V.ref t := by
                    rw [List.getElem?_map] at hz
                    obtain ⟨t, z1, z2⟩ := Option.map_eq_some_iff.mp hz
                    exact ⟨t, z1, z2.symm⟩
                  rw [hxs] at hj
                  obtain ⟨m, hm⟩ : ∃ m, (plcC secs cars (i + 1)).ord[j]? = some m := ⟨_, List.getElem?_eq_getElem hj⟩
                  have htv := k12 _ _ (y3 j t (entV (entP (paceOf cars) (plcC secs cars (i + 1)) m)) ht (by rw [List.getElem?_map]; unfold entsP; rw [List.getElem?_map, hm]; rfl))
                  refine ⟨rfl, yes_of ?_⟩
                  refine ⟨_, rfl, t, _, _, _, rfl, rfl, SqT.of htv, rfl, _, hO12, ?_, fun b o e => ?_, ?_⟩
                  · rw [List.length_map, List.length_take]
                    exact small1000 (by omega)
                  · rw [upd_ne (ne_of_none e hO2)]
                    exact k12 _ _ e
                  · rw [upd_same, List.take_succ, hm, List.map_append]
                    rfl
                · rintro H12 ⟨k12, hO12⟩
                  rw [hxs, List.take_length] at hO12
                  have D12 := D11.step k12
                  have nO2L : O2 ≠ LD := (ne_of_none D11.ld hO2).symm
                  have nOL := D12.nOL
                  have hLD2 : ∀ o, upd H12 OD o LD = some (.lst (ls.map V.ref)) := fun o => by rw [upd_ne nOL.symm]; exact D12.ld
                  have lol := D12.ol
                  have lll := D12.ll
                  refine ⟨OD, _, _, rfl, rfl, D12.od, by rw [List.length_map, lol]; exact small1000 (by omega), ?_⟩
                  refine ⟨_, rfl, .inl ⟨rfl, _, SqL.of (hLD2 _)⟩, _, rfl, LD, _, _, rfl, rfl, hLD2 _, by rw [List.length_map, lll]; exact small1000 (by omega), ?_⟩
                  refine ⟨_, x, _, _, _, _, _, _, os ++ [O2], ls ++ [l], rfl, D12.put hO12 nO2L (k12 _ _ hl10) hkv2, xs, ?_, ?_, fun i' t' v' h1 h2 => ?_⟩
                  · rw [upd_ne nxL, upd_ne nxO]
                    exact k12 _ _ y1
                  · rw [hxl]
                    exact x2
                  · have := k12 _ _ (y3 i' t' v' h1 h2)
                    rw [upd_ne (ne_of this D12.ld (by intro z; cases z)), upd_ne (ne_of this D12.od (by intro z; cases z))]
                    exact this
            · rintro σ H8 ⟨v3', E', v8', v9', v10, v11, v12, v13, os, ls, rfl, D, T8⟩
              rw [hrl] at D
              refine ⟨_, rfl, _, rfl, _, rfl, by show 3 ≤ sizeLine; decide, fun t ht => ?_⟩
              have D1 := D.step (sameNew ht (.tup [.ref TK, .ref OD, .ref LD]))
              refine k _ t TK OD LD D1.sm upd_same ?_ ⟨os, D1.od, D1.ol, D1.ov⟩ ⟨ls, D1.ld, D1.ll, D1.lv⟩ nTK nODH nLDH
              obtain ⟨kt, h1, h2⟩ := D1.tk
              refine ⟨kt, h1, fun c hc => ?_⟩
              obtain ⟨q, hq⟩ := List.mem_iff_getElem?.mp hc
              obtain ⟨d, hd⟩ : ∃ d, ds[q]? = some d := ⟨_, List.getElem?_eq_getElem (by rw [D1.dl]; exact (List.getElem?_eq_some_iff.mp hq).1)⟩
              exact ⟨d, h2 q c d hq hd, D1.dv q c d hq hd⟩
end
end Sl

set_option Elab.async false
set_option linter.all false
set_option maxRecDepth 100000
set_option maxHeartbeats 1000000
namespace Sl
open PySem PySem.Spec L2 OwnR LamX
theorem KeepB.notlst {r : Addr} {H H' : Hp} {xs : List V} (k : KeepB r H H') (hr : H r = some (.lst xs)) : ∀ b o, H b = some o → (∀ ys, o ≠ .lst ys) → H' b = some o := fun b o e n => k b o e (ne_of e hr (n _))
theorem RowAt.ext {K : PySem.W.Frag} {H H' : Hp} {r sc : Addr} {ns : List Int} (R : RowAt K H r sc ns) (e : ExtN H H') : RowAt K H' r sc ns := by
  refine ⟨let ⟨a, b, c, h⟩ := R.at_; ⟨a, b, c, ExtN.lst e h⟩, fun H2 k => ?_⟩
  have hG : KeepB r H (fun x => match H x with | some (.tbl ps) => some (.tbl ps) | _ => H2 x) := fun b o eb n => by
    show (match H b with | some (.tbl ps) => some (.tbl ps) | _ => H2 b) = some o
    rw [eb]
    cases o <;> first | rfl | exact k _ _ (e _ _ eb (fun _ z => nomatch z)) n
  rcases R.scr _ hG with (h | ⟨o, h⟩) | h
  · have h : (match H sc with | some (.tbl ps) => some (.tbl ps) | _ => H2 sc) = some (.lst (ns.map V.int)) := h
    split at h
    · cases h
    · exact .inl (.inl h)
  · have h : (match H sc with | some (.tbl ps) => some (.tbl ps) | _ => H2 sc) = some (.frz o (.lst (ns.map V.int))) := h
    split at h
    · cases h
    · exact .inl (.inr ⟨o, h⟩)
  · exact .inr h
theorem RunsAt.ext2 {H H' : Hp} {a : Addr} {secs : List Sec} (h : RunsAt H a secs) (e : ExtN H H') : RunsAt H' a secs := by
  obtain ⟨ts, h1, h2, h3⟩ := h
  exact ⟨ts, ExtN.lst e h1, h2, fun i t s e1 e2 => ExtN.tup e (h3 i t s e1 e2)⟩
theorem RunsAt.keep {H H' : Hp} {r a : Addr} {secs : List Sec} {xs : List V} (h : RunsAt H a secs) (k : KeepB r H H') (n : a ≠ r) (hr : H r = some (.lst xs)) : RunsAt H' a secs := by
  obtain ⟨ts, h1, h2, h3⟩ := h
  exact ⟨ts, k _ _ h1 n, h2, fun i t v e1 e2 => k _ _ (h3 i t v e1 e2) (ne_of (h3 i t v e1 e2) hr (by intro z; cases z))⟩
theorem TupsAt.ext {H H' : Hp} {a : Addr} {vss : List (List V)} (h : TupsAt H a vss) (e : ExtN H H') : TupsAt H' a vss := by
  obtain ⟨ts, h1, h2, h3⟩ := h
  exact ⟨ts, ExtN.lst e h1, h2, fun i t v e1 e2 => ExtN.tup e (h3 i t v e1 e2)⟩
theorem RoadAt.ext2 {C : Addr} {H H' : Hp} {p : Addr} {secs : List Sec} (h : RoadAt C H p secs) (e : ExtN H H') : RoadAt C H' p secs := by
  obtain ⟨dx, t, u, h1, h2, h3⟩ := h
  exact ⟨dx, t, u, ExtN.ins e h1, h2.ext e, h3⟩
/-- two lists of tuples, put together -/
theorem tups_app {H : Hp} {a b d : Addr} {v1 v2 : List (List V)} (h1 : TupsAt H a v1) (h2 : TupsAt H b v2) (hd : H d = none) : ∃ xs ys, H a = some (.lst xs) ∧ H b = some (.lst ys) ∧ xs.length = v1.length ∧ ys.length = v2.length ∧ TupsAt (upd H d (.lst (xs ++ ys))) d (v1 ++ v2) := by
  obtain ⟨t1, a1, a2, a3⟩ := h1
  obtain ⟨t2, b1, b2, b3⟩ := h2
  refine ⟨t1.map V.ref, t2.map V.ref, a1, b1, by rw [List.length_map, a2], by rw [List.length_map, b2], t1 ++ t2, by rw [upd_same, List.map_append], by rw [List.length_append, List.length_append, a2, b2], fun i t v e1 e2 => ?_⟩
  have key : H t = some (.tup v) := by
    by_cases hi : i < t1.length
    · rw [List.getElem?_append_left hi] at e1
      rw [List.getElem?_append_left (by omega)] at e2
      exact a3 i t v e1 e2
    · rw [List.getElem?_append_right (by omega)] at e1
      rw [List.getElem?_append_right (by omega), ← a2] at e2
      exact b3 _ t v e1 e2
  rw [upd_ne (ne_of_none key hd)]
  exact key
/-! ### overtakings, as the law counts them -/
theorem posL_get {n : Str} {l : List Str} (nd : l.Nodup) {i : Nat} (h : l[i]? = some n) : posL n l = i := by
  have hm := List.mem_of_getElem? h
  exact nd_ix nd (posL_at hm) h
theorem behind_mem {after : List Str} {j : Nat} {n o : Str} (hn : after[j]? = some n) (ne : o ≠ n) : decide (o ∈ after.drop j) = decide (o ∈ after.drop (j + 1)) := by
  rw [decide_eq_decide, List.drop_eq_getElem_cons (i := j) (List.getElem?_eq_some_iff.mp hn).1, List.mem_cons]
  have := (List.getElem?_eq_some_iff.mp hn).2
  rw [this]
  exact ⟨fun h => h.elim (fun z => absurd z ne) id, .inr⟩
/-! ### dict(..) of pairs -/
theorem merge_take {g : Car → V} {cars : List Car} (nd : (names cars).Nodup) : ∀ i, i ≤ cars.length → mergeK [] ((cars.take i).map fun c => ((Sum.inr c.name : Key), g c)) = (cars.take i).map fun c => ((Sum.inr c.name : Key), g c) := by
  intro i
  induction i with
  | zero => intro _; rfl
  | succ i ih =>
    intro hi
    obtain ⟨c, hc⟩ : ∃ c, cars[i]? = some c := ⟨_, List.getElem?_eq_getElem (by omega)⟩
    have e1 : (cars.take (i + 1)).map (fun c => ((Sum.inr c.name : Key), g c)) = (cars.take i).map (fun c => ((Sum.inr c.name : Key), g c)) ++ [((Sum.inr c.name : Key), g c)] := by
      rw [List.take_add_one, hc, List.map_append]
      rfl
    have e2 : mergeK [] ((cars.take (i + 1)).map fun c => ((Sum.inr c.name : Key), g c)) = putK (mergeK [] ((cars.take i).map fun c => ((Sum.inr c.name : Key), g c))) (Sum.inr c.name : Key) (g c) := by
      rw [e1]
      unfold mergeK
      rw [List.foldl_append]
      rfl
    rw [e2, ih (by omega), put_car (g := g) nd hc]
theorem merge_cars {g : Car → V} {cars : List Car} (nd : (names cars).Nodup) : mergeK [] (cars.map fun c => ((Sum.inr c.name : Key), g c)) = cars.map fun c => ((Sum.inr c.name : Key), g c) := by
  have := merge_take (g := g) nd cars.length (Nat.le_refl _)
  rwa [List.take_length] at this
theorem paired_of {α : Type} {H : Hp} {K : PySem.W.Frag} : ∀ {ts : List Addr} {cs : List α} {f : α → Key × V}, ts.length = cs.length → (∀ (i : Nat) (t : Addr) (c : α), ts[i]? = some t → cs[i]? = some c → SqT K H t [kV (f c).1, (f c).2]) → Paired (fun p kv => SqT K H p [kV kv.1, kv.2]) ts (cs.map f)
  | [], [], _, _, _ => .nil
  | t :: ts, c :: cs, f, hl, h => .cons (h 0 t c rfl rfl) (paired_of (by simpa using hl) fun i t c e1 e2 => h (i + 1) t c (by simpa using e1) (by simpa using e2))
theorem sum_map_int : ∀ l : List Sec, (l.map fun s => ((s.2 : Nat) : Int)).sum = ((unitsN l : Nat) : Int)
  | [] => rfl
  | s :: r => by
    have := sum_map_int r
    unfold unitsN at this ⊢
    simp only [List.map_cons, List.sum_cons]
    rw [this]
    omega
/-! ### what the law has at hand, in a turn -/
structure LawG (C : Addr) (H : Hp) (l a dv tk od : Addr) (secs : List Sec) (cars : List Car) : Prop where
  rn : RunsAt H l secs
  cr : TupsAt H a (cars.map Car.vs)
  da : DA C H dv secs cars
  tk : TksAt H tk secs cars
  od : OrdsAt H od secs cars
theorem LawG.same {C : Addr} {H H' : Hp} {l a dv tk od : Addr} {secs : List Sec} {cars : List Car} (F : LawG C H l a dv tk od secs cars) (e : Same H H') : LawG C H' l a dv tk od secs cars where
  rn := F.rn.ext2 (ExtN.same e)
  cr := F.cr.same e
  da := F.da.ext (ExtN.same e)
  tk := let ⟨kt, a, b⟩ := F.tk; ⟨kt, e _ _ a, fun c hc => let ⟨d, x, y⟩ := b c hc; ⟨d, x, e _ _ y⟩⟩
  od := let ⟨os, a, b, c⟩ := F.od; ⟨os, e _ _ a, b, fun k d h => e _ _ (c k d h)⟩
theorem pass0G {X : Cx} : Passes (L2.CX X.prog X.w) X E0 := fun _ _ _ _ _ _ _ h => let ⟨_, _, _, _, _, _, _, _, _, _, _, _, e⟩ := h; e.elim
theorem noStop0 (K : PySem.W.Frag) : NoStop K E0 := fun cls d H h => h.elim
end Sl

set_option Elab.async false
set_option linter.all false
set_option maxRecDepth 100000
set_option maxHeartbeats 1000000
namespace Sl
open PySem PySem.Spec L2 OwnR LamX
def Shp (n : Nat) (d : PyData) : Prop := d.canLay0 = true ∧ d.depth ≤ n
theorem Shp.ok {n : Nat} {d : PyData} (h : Shp n d) (hn : n ≤ 64) : SeqAt.shaped d = true := by
  unfold SeqAt.shaped
  rw [h.1, decide_eq_true (Nat.le_trans h.2 hn)]
  rfl
theorem shp_all {n : Nat} : ∀ {ds : List PyData}, (∀ d ∈ ds, Shp n d) → PyData.canLayAll0 ds = true ∧ PyData.depthAll ds ≤ n
  | [], _ => ⟨rfl, Nat.zero_le _⟩
  | d :: ds, h => by
    have h1 := h d List.mem_cons_self
    have h2 := shp_all (ds := ds) fun e he => h e (List.mem_cons_of_mem _ he)
    refine ⟨?_, ?_⟩
    · show (d.canLay0 && PyData.canLayAll0 ds) = true
      rw [h1.1, h2.1]
      rfl
    · show max d.depth (PyData.depthAll ds) ≤ n
      exact Nat.max_le.mpr ⟨h1.2, h2.2⟩
theorem shp_list {n : Nat} {ds : List PyData} (h : ∀ d ∈ ds, Shp n d) : Shp (n + 1) (.list ds) := ⟨(shp_all h).1, Nat.succ_le_succ (shp_all h).2⟩
theorem shp_tuple {n : Nat} {ds : List PyData} (h : ∀ d ∈ ds, Shp n d) : Shp (n + 1) (.tuple ds) := ⟨(shp_all h).1, Nat.succ_le_succ (shp_all h).2⟩
theorem shp_int (i : Int) : Shp 0 (.int i) := ⟨rfl, Nat.le_refl _⟩
theorem shp_non : Shp 0 .none := ⟨rfl, Nat.le_refl _⟩
theorem shp_str {x : Str} (h : PyData.strOk x = true) : Shp 0 (.str x) := ⟨h, Nat.le_refl _⟩
theorem Shp.same {n : Nat} {d : PyData} (h : Shp n d) : PyData.eqv d d = true := SeqAt.eqv_refl d h.1
theorem dp_refs {K : PySem.W.Frag} {H : Hp} {α : Type} (f : α → PyData) : ∀ {as : List Addr} {l : List α}, as.length = l.length → (∀ (i : Nat) (a : Addr) (x : α), as[i]? = some a → l[i]? = some x → Dp K H (.ref a) (f x)) → DpAll K H (as.map V.ref) (l.map f)
  | [], [], _, _ => .nil
  | a :: as, x :: l, hl, h => .cons (h 0 a x rfl rfl) (dp_refs f (by simpa using hl) fun i b y e1 e2 => h (i + 1) b y (by simpa using e1) (by simpa using e2))
theorem dp_vals {K : PySem.W.Frag} {H : Hp} {α : Type} (v : α → V) (f : α → PyData) (h : ∀ x, Dp K H (v x) (f x)) : ∀ (l : List α), DpAll K H (l.map v) (l.map f)
  | [] => .nil
  | x :: l => .cons (h x) (dp_vals v f h l)
def NamesOk (cars : List Car) : Prop := ∀ n ∈ names cars, PyData.strOk n = true
theorem namesOk {cars : List Car} (CO : CarsOk cars) : NamesOk cars := fun n hn => by
  obtain ⟨c, hc, rfl⟩ := List.mem_map.mp hn
  obtain ⟨_, _, h⟩ := (CO.all c hc).nm
  unfold PyData.strOk
  rw [Array.all_eq_true_iff_forall_mem]
  intro x hx
  have := h x (by rw [Array.mem_toList_iff]; exact hx)
  simp
  omega
def intsD (l : List Int) : PyData := .list (l.map PyData.int)
theorem shp_intsD (l : List Int) : Shp 1 (intsD l) := shp_list fun d hd => by
  obtain ⟨i, _, rfl⟩ := List.mem_map.mp hd
  exact shp_int i
theorem dp_ints {K : PySem.W.Frag} {H : Hp} {a : Addr} {l : List Int} (h : H a = some (.lst (l.map V.int))) : Dp K H (.ref a) (intsD l) := .lst (SqL.of h) (dp_vals V.int PyData.int (fun i => .int i) l)
def strsD (l : List Str) : PyData := .list (l.map PyData.str)
theorem shp_strsD {l : List Str} (h : ∀ n ∈ l, PyData.strOk n = true) : Shp 1 (strsD l) := shp_list fun d hd => by
  obtain ⟨i, hi, rfl⟩ := List.mem_map.mp hd
  exact shp_str (h i hi)
theorem dp_strs {K : PySem.W.Frag} {H : Hp} {a : Addr} {l : List Str} (h : H a = some (.lst (l.map V.str))) : Dp K H (.ref a) (strsD l) := .lst (SqL.of h) (dp_vals V.str PyData.str (fun i => .str i) l)
def optD : Option Str → PyData
  | some s => .str s
  | none => .none
theorem dp_opt {K : PySem.W.Frag} {H : Hp} (o : Option Str) : Dp K H (strO o) (optD o) := by
  cases o with
  | none => exact .non
  | some s => exact .str s
def optsD (l : List (Option Str)) : PyData := .list (l.map optD)
theorem shp_optsD {l : List (Option Str)} (h : ∀ n, some n ∈ l → PyData.strOk n = true) : Shp 1 (optsD l) := shp_list fun d hd => by
  obtain ⟨o, ho, rfl⟩ := List.mem_map.mp hd
  cases o with
  | none => exact shp_non
  | some s => exact shp_str (h s ho)
theorem dp_opts {K : PySem.W.Frag} {H : Hp} {a : Addr} {l : List (Option Str)} (h : H a = some (.lst (l.map strO))) : Dp K H (.ref a) (optsD l) := .lst (SqL.of h) (dp_vals strO optD dp_opt l)
theorem ovAll_in {secs : List Sec} {cars : List Car} {i : Nat} {q : OvT} (h : q ∈ ovAll secs cars i) : q.2.1 ∈ names cars ∧ q.2.2 ∈ names cars := by
  unfold ovAll at h
  obtain ⟨k, _, h⟩ := List.mem_flatMap.mp h
  unfold ovSec at h
  obtain ⟨j, _, h⟩ := List.mem_flatMap.mp h
  unfold ovMid at h
  split at h
  · rename_i n hn
    unfold ovIn at h
    obtain ⟨o, ho, rfl⟩ := List.mem_map.mp h
    exact ⟨(plcC_perm secs cars (k + 1)).mem_iff.mp (List.mem_of_getElem? hn), (plcC_perm secs cars k).mem_iff.mp (List.mem_of_mem_take (List.mem_filter.mp ho).1)⟩
  · cases h
/-! ### leaves that are alike -/
theorem like_int {K : PySem.W.Frag} {i : Int} {H : Hp} {Q : VK} (k : Q (.bl true) H) : spLike0 K [.int i, .int i] H Q E0 :=
  ⟨_, _, "int", rfl, .inl rfl, .int i, .int i, .inl ⟨_, _, .int i, .int i, (shp_int i).ok (by decide), (shp_int i).ok (by decide), by rw [(shp_int i).same]; exact k⟩⟩
theorem like_str {K : PySem.W.Frag} {x : Str} (hx : PyData.strOk x = true) {H : Hp} {Q : VK} (k : Q (.bl true) H) : spLike0 K [.str x, .str x] H Q E0 :=
  ⟨_, _, "str", rfl, .inr (.inl rfl), .str x, .str x, .inl ⟨_, _, .str x, .str x, (shp_str hx).ok (by decide), (shp_str hx).ok (by decide), by rw [(shp_str hx).same]; exact k⟩⟩
theorem like_non {K : PySem.W.Frag} {H : Hp} {Q : VK} (k : Q (.bl true) H) : spLike0 K [.non, .non] H Q E0 :=
  ⟨_, _, "NoneType", rfl, .inr (.inr (.inr rfl)), .non, .non, .inl ⟨_, _, .non, .non, shp_non.ok (by decide), shp_non.ok (by decide), by rw [shp_non.same]; exact k⟩⟩
theorem like_dict {K : PySem.W.Frag} {a b : Addr} {kv : List (Key × V)} {H : Hp} (ha : H a = some (.dK kv)) (hb : H b = some (.dK kv)) (hv : ∀ p ∈ kv, valV kv p.1 = some p.2 ∧ flatB p.2 = true) {Q : VK} (k : Q (.bl true) H) : spLike0 K [.ref a, .ref b] H Q E0 :=
  ⟨_, _, "dict", rfl, .inr (.inr (.inl rfl)), .dK ha, .dK hb, .inr (.inl ⟨a, b, kv, kv, rfl, rfl, ha, hb, rfl, hv, k⟩)⟩
theorem like_dictD {K : PySem.W.Frag} {a b : Addr} {ks ls : List (Key × V)} {H : Hp} (ha : H a = some (.dK ks)) (hb : H b = some (.dK ls)) (hl : ks.length = ls.length) (hv : ∀ p ∈ ks, ∃ u, valV ls p.1 = some u ∧ SameD K H p.2 u) {Q : VK} (k : Q (.bl true) H) : spLike0 K [.ref a, .ref b] H Q E0 :=
  ⟨_, _, "dict", rfl, .inr (.inr (.inl rfl)), .dK ha, .dK hb, .inr (.inr ⟨a, b, ks, ls, rfl, rfl, ha, hb, hl, hv, k⟩)⟩
theorem lossK_self {secs : List Sec} {cars : List Car} (nd : (names cars).Nodup) : ∀ p ∈ lossK secs cars, valV (lossK secs cars) p.1 = some p.2 ∧ flatB p.2 = true := fun p hp => by
  obtain ⟨c, hc, rfl⟩ := List.mem_map.mp hp
  exact ⟨valV_names (g := fun c => V.int (lossOf secs cars c)) nd hc, rfl⟩
end Sl

set_option Elab.async false
set_option linter.all false
set_option maxRecDepth 100000
set_option maxHeartbeats 1000000
namespace Sl
open PySem PySem.Spec L2 OwnR LamX
/-- leaders are cars -/
theorem foll_lead (fr : Str → Int) (ord : List Str) : ∀ r ∈ foll fr ord, ∀ m, r.2.2 = some m → m ∈ ord := by
  have h : ∀ (l : List Str) (pre : List Str) (acc : List (RowT Str)), acc.map (·.1) = pre → (∀ r ∈ acc, ∀ m, r.2.2 = some m → m ∈ pre) → ∀ r ∈ l.foldl (fun acc n => acc ++ [fnext fr acc n]) acc, ∀ m, r.2.2 = some m → m ∈ pre ++ l := by
    intro l
    induction l with
    | nil => intro pre acc _ h; simpa using h
    | cons n q ih =>
      intro pre acc e h
      rw [List.foldl_cons]
      have := ih (pre ++ [n]) (acc ++ [fnext fr acc n]) (by rw [List.map_append, e]; simp [fnext_name]) fun r hr m hm => by
        rcases List.mem_append.mp hr with hr | hr
        · exact List.mem_append_left _ (h r hr m hm)
        · rw [List.mem_singleton.mp hr] at hm
          refine List.mem_append_left _ ?_
          unfold fnext at hm
          split at hm
          · cases hm
          · rename_i a t lo hl
            have hmem := List.mem_of_getLast? hl
            split at hm
            · have hm : some (lo.getD a) = some m := hm
              have hm := Option.some.inj hm
              cases lo with
              | none =>
                rw [← hm, ← e]
                exact List.mem_map.mpr ⟨_, hmem, rfl⟩
              | some b =>
                rw [← hm]
                exact h _ hmem b rfl
            · cases hm
      simpa using this
  intro r hr m hm
  have := h ord [] [] rfl (fun r hr => nomatch hr) r hr m hm
  simpa using this
theorem ldrC_in {secs : List Sec} {cars : List Car} {k : Nat} {n m : Str} (h : ldrC secs cars k n = some m) : m ∈ names cars := by
  have h : ldr (paceOf cars) (pl0 cars) secs k n = some m := h
  unfold ldr at h
  cases hs : secs[k]? with
  | none => rw [hs] at h; cases h
  | some s =>
    rw [hs] at h
    have h : leadP (paceOf cars) (plcC secs cars k) s n = some m := h
    unfold leadP at h
    split at h
    · cases h
    · unfold leadOf look at h
      cases q : (foll (freeP (paceOf cars) (plcC secs cars k) s.2) (plcC secs cars k).ord).find? (fun r => decide (r.1 = n)) with
      | none => rw [q] at h; cases h
      | some r =>
        rw [q] at h
        have h : r.2.2 = some m := h
        exact (plcC_perm secs cars k).mem_iff.mp (foll_lead _ _ r (List.mem_of_find?_eq_some q) m h)
theorem ord_ok {secs : List Sec} {cars : List Car} (CO : CarsOk cars) (k : Nat) : ∀ n ∈ (plcC secs cars k).ord, PyData.strOk n = true := fun n hn => namesOk CO n ((plcC_perm secs cars k).mem_iff.mp hn)
/-! ### lists that are alike -/
theorem like_strs {K : PySem.W.Frag} {a b : Addr} {l : List Str} {H : Hp} (ha : H a = some (.lst (l.map V.str))) (hb : H b = some (.lst (l.map V.str))) (ok : ∀ n ∈ l, PyData.strOk n = true) (hl : l.length ≤ 1000) {Q : VK} (k : ∀ H', Same H H' → Q (.bl true) H') : spLikeS (spLike0 K) [.ref a, .ref b] H Q E0 := by
  refine ⟨a, b, "list", l.map V.str, l.map V.str, rfl, .inr ⟨rfl, ha⟩, .inr ⟨rfl, hb⟩, rfl, by rw [List.length_map]; exact hl, fun H' k' i x y hx hy Q' hQ => ?_, k⟩
  rw [hx] at hy
  rw [← Option.some.inj hy]
  rw [List.getElem?_map] at hx
  obtain ⟨n, hn, rfl⟩ := Option.map_eq_some_iff.mp hx
  exact like_str (ok n (List.mem_of_getElem? hn)) (hQ _ fun _ _ z => z)
theorem like_opts {K : PySem.W.Frag} {a b : Addr} {l : List (Option Str)} {H : Hp} (ha : H a = some (.lst (l.map strO))) (hb : H b = some (.lst (l.map strO))) (ok : ∀ n, some n ∈ l → PyData.strOk n = true) (hl : l.length ≤ 1000) {Q : VK} (k : ∀ H', Same H H' → Q (.bl true) H') : spLikeS (spLike0 K) [.ref a, .ref b] H Q E0 := by
  refine ⟨a, b, "list", l.map strO, l.map strO, rfl, .inr ⟨rfl, ha⟩, .inr ⟨rfl, hb⟩, rfl, by rw [List.length_map]; exact hl, fun H' k' i x y hx hy Q' hQ => ?_, k⟩
  rw [hx] at hy
  rw [← Option.some.inj hy]
  rw [List.getElem?_map] at hx
  obtain ⟨n, hn, rfl⟩ := Option.map_eq_some_iff.mp hx
  cases n with
  | none => exact like_non (hQ _ fun _ _ z => z)
  | some m => exact like_str (ok m (List.mem_of_getElem? hn)) (hQ _ fun _ _ z => z)
theorem like_strss {K : PySem.W.Frag} {a b : Addr} {as bs : List Addr} {ls : List (List Str)} {H : Hp} (ha : H a = some (.lst (as.map V.ref))) (hb : H b = some (.lst (bs.map V.ref))) (la : as.length = ls.length) (lb : bs.length = ls.length)
    (va : ∀ (i : Nat) (d : Addr) (l : List Str), as[i]? = some d → ls[i]? = some l → H d = some (.lst (l.map V.str))) (vb : ∀ (i : Nat) (d : Addr) (l : List Str), bs[i]? = some d → ls[i]? = some l → H d = some (.lst (l.map V.str)))
    (ok : ∀ l ∈ ls, (∀ n ∈ l, PyData.strOk n = true) ∧ l.length ≤ 1000) (hl : ls.length ≤ 1000) {Q : VK} (k : ∀ H', Same H H' → Q (.bl true) H') : spLikeS (spLikeS (spLike0 K)) [.ref a, .ref b] H Q E0 := by
  refine ⟨a, b, "list", as.map V.ref, bs.map V.ref, rfl, .inr ⟨rfl, ha⟩, .inr ⟨rfl, hb⟩, by rw [List.length_map, List.length_map, la, lb], by rw [List.length_map, lb]; exact hl, fun H' k' i x y hx hy Q' hQ => ?_, k⟩
  rw [List.getElem?_map] at hx hy
  obtain ⟨d, hd, rfl⟩ := Option.map_eq_some_iff.mp hx
  obtain ⟨e, he, rfl⟩ := Option.map_eq_some_iff.mp hy
  obtain ⟨l, hll⟩ : ∃ l, ls[i]? = some l := ⟨_, List.getElem?_eq_getElem (by rw [← la]; exact (List.getElem?_eq_some_iff.mp hd).1)⟩
  obtain ⟨o1, o2⟩ := ok l (List.mem_of_getElem? hll)
  exact like_strs (k' _ _ (va i d l hd hll)) (k' _ _ (vb i e l he hll)) o1 o2 hQ
/-! ### what a draw keeps -/
section
variable {K : PySem.W.Frag} {H H' : Hp} {r sc : Addr} {ns : List Int}
theorem RowAt.neR (R : RowAt K H r sc ns) {a : Addr} {l : List Addr} (h : H a = some (.lst (l.map V.ref))) : a ≠ r := fun z => by
  obtain ⟨x, b, c, e⟩ := R.at_
  rw [z, e] at h
  cases l with
  | nil => cases h
  | cons u q =>
    cases q with
    | nil => cases h
    | cons v w => cases h
theorem RowAt.neI (R : RowAt K H r sc ns) {a : Addr} {l : List Int} (h : H a = some (.lst (l.map V.int))) : a ≠ r := fun z => by
  obtain ⟨x, b, c, e⟩ := R.at_
  rw [z, e] at h
  cases l with
  | nil => cases h
  | cons u q => cases h
theorem RowAt.neS (R : RowAt K H r sc ns) {a : Addr} {l : List Str} (h : H a = some (.lst (l.map V.str))) : a ≠ r := fun z => by
  obtain ⟨x, b, c, e⟩ := R.at_
  rw [z, e] at h
  cases l with
  | nil => cases h
  | cons u q => cases h
theorem RowAt.neO (R : RowAt K H r sc ns) {a : Addr} {o : HO} (h : H a = some o) (n : ∀ xs, o ≠ .lst xs) : a ≠ r := by
  obtain ⟨x, b, c, e⟩ := R.at_
  exact ne_of h e (n _)
theorem DA.keep {C p : Addr} {secs : List Sec} {cars : List Car} (D : DA C H p secs cars) (R : RowAt K H r sc ns) (k : KeepB r H H') : DA C H' p secs cars := by
  obtain ⟨H0, W, D⟩ := D
  have kr : ∀ (a : Addr) (l : List Addr), H a = some (.lst (l.map V.ref)) → H' a = some (.lst (l.map V.ref)) := fun a l h => k _ _ h (R.neR h)
  have ks : ∀ (a : Addr) (l : List Str), H a = some (.lst (l.map V.str)) → H' a = some (.lst (l.map V.str)) := fun a l h => k _ _ h (R.neS h)
  have ko : ∀ (a : Addr) (o : HO), H a = some o → (∀ xs, o ≠ .lst xs) → H' a = some o := fun a o h n => k _ _ h (R.neO h n)
  refine ⟨fun _ => none, W, { D with ext := fun b o e _ => (nomatch e), ins := ko _ _ D.ins (fun _ z => nomatch z), sec := ?_, pac := ko _ _ D.pac (fun _ z => nomatch z), lt := kr _ _ D.lt, lo := kr _ _ D.lo, ll := kr _ _ D.ll, tk := fun q d h => ?_, od := fun q d h => ks _ _ (D.od q d h), ld := fun q d h => ?_, newp := fun b o e _ => (nomatch e), newt := fun b o e _ => (nomatch e), newo := fun b o e _ => (nomatch e), newl := fun b o e _ => (nomatch e) }⟩
  · obtain ⟨ts, a1, a2, a3⟩ := D.sec
    exact ⟨ts, ko _ _ a1 (fun _ z => nomatch z), a2, fun i t s e1 e2 => ko _ _ (a3 i t s e1 e2) (fun _ z => nomatch z)⟩
  · obtain ⟨kv, a, b⟩ := D.tk q d h
    exact ⟨kv, ko _ _ a (fun _ z => nomatch z), b⟩
  · obtain ⟨kv, a, b⟩ := D.ld q d h
    exact ⟨kv, ko _ _ a (fun _ z => nomatch z), b⟩
end
/-! ### what the law has at hand, in a turn -/
structure LawH (C : Addr) (H : Hp) (l a dv tk od ld : Addr) (secs : List Sec) (cars : List Car) : Prop where
  rn : RunsAt H l secs
  cr : TupsAt H a (cars.map Car.vs)
  da : DA C H dv secs cars
  tk : TksAt H tk secs cars
  od : OrdsAt H od secs cars
  ld : LdsAt H ld secs cars
theorem LawH.same {C : Addr} {H H' : Hp} {l a dv tk od ld : Addr} {secs : List Sec} {cars : List Car} (F : LawH C H l a dv tk od ld secs cars) (e : Same H H') : LawH C H' l a dv tk od ld secs cars where
  rn := F.rn.ext2 (ExtN.same e)
  cr := F.cr.same e
  da := F.da.ext (ExtN.same e)
  tk := let ⟨kt, a, b⟩ := F.tk; ⟨kt, e _ _ a, fun c hc => let ⟨d, x, y⟩ := b c hc; ⟨d, x, e _ _ y⟩⟩
  od := let ⟨os, a, b, c⟩ := F.od; ⟨os, e _ _ a, b, fun k d h => e _ _ (c k d h)⟩
  ld := let ⟨ls, a, b, c⟩ := F.ld; ⟨ls, e _ _ a, b, fun k d h => let ⟨kv, x, y⟩ := c k d h; ⟨kv, e _ _ x, y⟩⟩
theorem LawH.keep {K : PySem.W.Frag} {H H' : Hp} {r sc : Addr} {ns : List Int} {C : Addr} {l a dv tk od ld : Addr} {secs : List Sec} {cars : List Car} (F : LawH C H l a dv tk od ld secs cars) (R : RowAt K H r sc ns) (k : KeepB r H H') : LawH C H' l a dv tk od ld secs cars := by
  have kr : ∀ (a : Addr) (l : List Addr), H a = some (.lst (l.map V.ref)) → H' a = some (.lst (l.map V.ref)) := fun a l h => k _ _ h (R.neR h)
  have ko : ∀ (a : Addr) (o : HO), H a = some o → (∀ xs, o ≠ .lst xs) → H' a = some o := fun a o h n => k _ _ h (R.neO h n)
  refine ⟨?_, ?_, F.da.keep R k, ?_, ?_, ?_⟩
  · obtain ⟨ts, h1, h2, h3⟩ := F.rn
    exact ⟨ts, kr _ _ h1, h2, fun i t s e1 e2 => ko _ _ (h3 i t s e1 e2) (fun _ z => nomatch z)⟩
  · obtain ⟨ts, h1, h2, h3⟩ := F.cr
    exact ⟨ts, kr _ _ h1, h2, fun i t s e1 e2 => ko _ _ (h3 i t s e1 e2) (fun _ z => nomatch z)⟩
  · obtain ⟨kt, a, b⟩ := F.tk
    exact ⟨kt, ko _ _ a (fun _ z => nomatch z), fun c hc => let ⟨d, x, y⟩ := b c hc; ⟨d, x, k _ _ y (R.neI y)⟩⟩
  · obtain ⟨os, a, b, c⟩ := F.od
    exact ⟨os, kr _ _ a, b, fun q d h => k _ _ (c q d h) (R.neS (c q d h))⟩
  · obtain ⟨ls, a, b, c⟩ := F.ld
    exact ⟨ls, kr _ _ a, b, fun q d h => let ⟨kv, x, y⟩ := c q d h; ⟨kv, ko _ _ x (fun _ z => nomatch z), y⟩⟩
theorem dp_intsT {K : PySem.W.Frag} {H : Hp} {a : Addr} {l : List Int} (h : H a = some (.tup (l.map V.int))) : Dp K H (.ref a) (.tuple (l.map PyData.int)) := .tup (SqT.of h) (dp_vals V.int PyData.int (fun i => .int i) l)
theorem shp_intsT (l : List Int) : Shp 1 (.tuple (l.map PyData.int)) := shp_tuple fun d hd => by
  obtain ⟨i, _, rfl⟩ := List.mem_map.mp hd
  exact shp_int i
theorem strO_eq (o : Option Str) (n : Str) : decide (strO o = V.str n) = decide (o = some n) := by
  cases o with
  | none => simp [strO]
  | some m => simp [strO]
theorem strO_scal (o : Option Str) (n : Str) : scal (strO o) (.str n) = true := by cases o <;> rfl
theorem zoe_not {cars : List Car} (h : ∀ c ∈ cars, c.name ∈ wordsL) : ("zoe" : Str) ∉ names cars := fun z => by
  obtain ⟨c, hc, e⟩ := List.mem_map.mp z
  have := h c hc
  rw [e] at this
  exact absurd this (by decide +kernel)
end Sl
namespace Sl
open PySem PySem.Spec L2 OwnR LamX
theorem eqvAll_ints : ∀ a b : List Int, PyData.eqvAll (a.map PyData.int) (b.map PyData.int) = decide (a = b)
  | [], [] => rfl
  | [], _ :: _ => rfl
  | _ :: _, [] => rfl
  | x :: a, y :: b => by
    show (PyData.eqv (.int x) (.int y) && PyData.eqvAll (a.map PyData.int) (b.map PyData.int)) = _
    rw [eqvAll_ints a b]
    by_cases h : x = y <;> by_cases g : a = b <;> simp [PyData.eqv, h, g]
theorem eqv_intsT (a b : List Int) : PyData.eqv (.tuple (a.map PyData.int)) (.tuple (b.map PyData.int)) = decide (a = b) := eqvAll_ints a b
theorem eqv_intsL (a b : List Int) : PyData.eqv (.list (a.map PyData.int)) (.list (b.map PyData.int)) = decide (a = b) := eqvAll_ints a b
end Sl

set_option Elab.async false
set_option linter.all false
set_option maxRecDepth 100000
set_option maxHeartbeats 1000000
namespace Sl
open PySem PySem.Spec L2 OwnR LamX
/-- all cars but one -/
def lessC (cars : List Car) (n : Str) : List Car := cars.filter fun c => decide (c.name ≠ n)
theorem less_ok {cars : List Car} (CO : CarsOk cars) (n : Str) : CarsOk (lessC cars n) where
  all := fun c hc => CO.all c (List.mem_filter.mp hc).1
  nd := CO.nd.sublist (List.Sublist.map _ List.filter_sublist)
  few := Nat.le_trans (List.length_filter_le _ _) CO.few
theorem less_mem {cars : List Car} {n : Str} {c : Car} (hc : c ∈ cars) (h : c.name ≠ n) : c.name ∈ names (lessC cars n) := List.mem_map.mpr ⟨c, List.mem_filter.mpr ⟨hc, by simpa using h⟩, rfl⟩
theorem less_not {cars : List Car} {n : Str} : n ∉ names (lessC cars n) := fun z => by
  obtain ⟨c, hc, e⟩ := List.mem_map.mp z
  have := (List.mem_filter.mp hc).2
  simp at this
  exact this e
/-- the cars that change, without one of them -/
def chgC (secs : List Sec) (cars : List Car) (n : Str) : List Car := cars.filter fun c => decide (c.name ≠ n) && !decide (tksL secs cars c.name = tksL secs (lessC cars n) c.name)
def chgL (secs : List Sec) (cars : List Car) (n : Str) : List Str := (chgC secs cars n).map (·.name)
def realL (secs : List Sec) (cars : List Car) (n : Str) : List Str := (cars.filter fun c => decide (c.name ≠ n) && !decide (tksL secs (lessC cars c.name) n = tksL secs cars n)).map (·.name)
def possL (cars : List Car) (n : Str) : List Str := ((pl0 cars).ord.take (posL n (pl0 cars).ord)).filter fun o => decide (paceOf cars n < paceOf cars o)
theorem CarsAt.lst2 {H : Hp} {a : Addr} {cars : List Car} (h : CarsAt H a cars) {i : Nat} {c : Car} (e : cars[i]? = some c) : ∃ ts : List Addr, H a = some (.tup (ts.map V.ref)) ∧ ts.length = cars.length ∧ ∃ t, ts[i]? = some t ∧ H t = some (.tup c.vs) := by
  obtain ⟨ts, h1, h2, h3⟩ := h
  obtain ⟨t, ht⟩ : ∃ t, ts[i]? = some t := ⟨_, List.getElem?_eq_getElem (by rw [h2]; exact (List.getElem?_eq_some_iff.mp e).1)⟩
  exact ⟨ts, h1, h2, t, ht, h3 i t c ht e⟩
section
variable {P : Program} {w : World} {K : PySem.W.Frag} {mg : Str → Option Value} {base : Heap}
/-! ### check_known -/
def spKnown : Sp := fun vs H Q _ => ∃ (a : Addr) (cars : List Car) (n : Str), vs = [.ref a, .str n] ∧ CarsAt H a cars ∧ CarsOk cars ∧ n ∈ names cars ∧ ∀ H', Same H H' → Q .non H'
def nKnown : List Str := ["cars", "name", "known", "start", "pace"]
theorem scKnown : FnScope nKnown ["cars", "name"] (defScope sCheckKnown) := ⟨rfl, rfl, rfl, by decide +kernel, rfl, by decide +kernel, by decide +kernel⟩
theorem ok_known {f : Addr} {fd : FuncData} (F : Fun K "check_known" "check_known" sCheckKnown f fd) : FnOk P w K mg base CX0 1 f fd ["cars", "name"] spKnown := by
  refine F.ok scKnown (fun vs H Q E h => ?_) (fun cdv A outer s H vs Q E hr h => ?_)
  · obtain ⟨a, cars, n, rfl, _⟩ := h
    rfl
  · obtain ⟨a, cars, n, rfl, hC, CO, hn, k⟩ := h
    have nd := scKnown.nd
    refine ⟨_, pss_one (ps_if (pt_cmpR op_notIn_seq (pv 1) (pe_lc (own := [("known", 2), ("start", 3), ("pace", 4)]) (g := gTup K 3 (gCons (gName 2) (gCons (gName 3) (gCons (gName 4) gNil)))) (tt := tYes) (te := tVar 2) (by rfl) nd (pi_tup (pv 0)) (blkOk_by (N := nKnown) (sc := defScope sCheckKnown) (by decide +kernel))
          (fun _ _ _ _ _ => pg_tup rfl (pgs_cons (pg_name (i := 2) nd rfl (Or.inl rfl)) (pgs_cons (pg_name (i := 3) nd rfl (Or.inl rfl)) (pgs_cons (pg_name (i := 4) nd rfl (Or.inl rfl)) pgs_nil)))) (fun _ _ _ _ _ => pts_nil) (fun _ _ _ _ _ => pv 2)) (by rfl)) (pss_one ps_never) pss_nil), ?_⟩
    obtain ⟨ts, h1, h2, h3⟩ := hC
    have hl : (ts.map V.ref).length = cars.length := by rw [List.length_map, h2]
    refine ⟨_, rfl, _, rfl, a, rfl, ⟨_, SqT.of h1⟩, fun D hD => ?_⟩
    refine lc_it walk_tup (fun i H1 => Same H H1 ∧ H1 D = some (.lst (((cars.take i).map (·.name)).map V.str)))
      ⟨sameNew hD _, upd_same⟩ (fun i H1 _ ⟨k1, _⟩ => SqT.of (k1 _ _ h1)) ?_ ?_
    · rintro i y Hz H1 hi ⟨k1, hD1⟩ ⟨e, hy⟩
      subst e
      obtain ⟨t, ht, rfl⟩ : ∃ t, ts[i]? = some t ∧ y = V.ref t := by
        rw [List.getElem?_map] at hy
        obtain ⟨t, z1, z2⟩ := Option.map_eq_some_iff.mp hy
        exact ⟨t, z1, z2.symm⟩
      rw [hl] at hi
      obtain ⟨c, hc⟩ : ∃ c, cars[i]? = some c := ⟨_, List.getElem?_eq_getElem hi⟩
      have few := CO.few
      refine ⟨t, _, rfl, SqT.of (k1 _ _ (h3 i t c ht hc)), rfl, _, _, rfl, _, _, rfl, _, _, rfl, rfl, rfl, yes_of ?_⟩
      refine ⟨_, rfl, _, hD1, by rw [List.length_map, List.length_map, List.length_take]; exact small1000 (by omega), fun b o e => by rw [upd_ne (ne_of_none e hD)]; exact k1 _ _ e, ?_⟩
      rw [upd_same, tk1 hc, List.map_append, List.map_append]
      rfl
    · rintro H1 ⟨k1, hD1⟩
      rw [hl, List.take_length] at hD1
      refine ⟨D, _, rfl, .inl (SqL.of hD1), rfl, flat_strs _, _, rfl, ?_⟩
      have : inV (V.str n) ((cars.map (·.name)).map V.str) = true := by rw [inV_str]; exact decide_eq_true hn
      rw [this]
      exact iteF (k _ k1)
/-! ### _without -/
def spWithout : Sp := fun vs H Q _ => ∃ (a : Addr) (cars : List Car) (n : Str), vs = [.ref a, .str n] ∧ CarsAt H a cars ∧ CarsOk cars ∧ ∀ H' b, Same H H' → CarsAt H' b (lessC cars n) → Q (.ref b) H'
def nWithout : List Str := ["cars", "name", "car"]
theorem scWithout : FnScope nWithout ["cars", "name"] (defScope sWithout) := ⟨rfl, rfl, rfl, by decide +kernel, rfl, by decide +kernel, by decide +kernel⟩
theorem ok_without {f : Addr} {fd : FuncData} (F : Fun K "_without" "_without" sWithout f fd) (M : Mg mg) : FnOk P w K mg base CX0 1 f fd ["cars", "name"] spWithout := by
  refine F.ok scWithout (fun vs H Q E h => ?_) (fun cdv A outer s H vs Q E hr h => ?_)
  · obtain ⟨a, cars, n, rfl, _⟩ := h
    rfl
  · obtain ⟨a, cars, n, rfl, hC, CO, k⟩ := h
    have nd := scWithout.nd
    refine ⟨_, pss_one (ps_ret (pe_callTy call_tuple_of (by rfl) M.tuple boot_tTuple (pa_cons (pe_lc (own := [("car", 2)]) (g := gName 2) (tt := tTest (tOp rNe (tOp (rIxT K) (tVar 2) (tC (.int 0))) (tVar 1))) (te := tVar 2) (by rfl) nd (pi_tup (pv 0)) (blkOk_by (N := nWithout) (sc := defScope sWithout) (by decide +kernel))
          (fun _ _ _ _ _ => pg_name (i := 2) nd rfl (Or.inl rfl)) (fun _ _ _ _ _ => pts_one (pt_cmpR op_ne (pe_ix (r := rIxT K) ix_tup (pv 2) pe_int (fun _ _ => rfl)) (pv 1) (nomark _))) (fun _ _ _ _ _ => pv 2)) pa_nil))), ?_⟩
    obtain ⟨ts, h1, h2, h3⟩ := hC
    have few := CO.few
    have hl : (ts.map V.ref).length = cars.length := by rw [List.length_map, h2]
    refine ⟨_, rfl, a, rfl, ⟨_, SqT.of h1⟩, fun D hD => ?_⟩
    refine lc_it walk_tup (fun i H1 => Same H H1 ∧ ∃ us : List Addr, H1 D = some (.lst (us.map V.ref)) ∧ us.length = (lessC (cars.take i) n).length ∧ ∀ (q : Nat) (t : Addr) (c : Car), us[q]? = some t → (lessC (cars.take i) n)[q]? = some c → H t = some (.tup c.vs))
      ⟨sameNew hD _, [], upd_same, rfl, fun q t c e => by simp at e⟩ (fun i H1 _ ⟨k1, _⟩ => SqT.of (k1 _ _ h1)) ?_ ?_
    · rintro i y Hz H1 hi ⟨k1, us, u1, u2, u3⟩ ⟨e, hy⟩
      subst e
      obtain ⟨t, ht, rfl⟩ : ∃ t, ts[i]? = some t ∧ y = V.ref t := by
        rw [List.getElem?_map] at hy
        obtain ⟨t, z1, z2⟩ := Option.map_eq_some_iff.mp hy
        exact ⟨t, z1, z2.symm⟩
      rw [hl] at hi
      obtain ⟨c, hc⟩ : ∃ c, cars[i]? = some c := ⟨_, List.getElem?_eq_getElem hi⟩
      have htv := h3 i t c ht hc
      refine ⟨rfl, ?_⟩
      refine ⟨_, rfl, t, _, _, _, rfl, rfl, SqT.of (k1 _ _ htv), rfl, _, rfl, rfl, _, rfl, ?_⟩
      have e1 : lessC (cars.take (i + 1)) n = lessC (cars.take i) n ++ (if c.name = n then [] else [c]) := by
        unfold lessC
        rw [tk1 hc, List.filter_append]
        by_cases h : c.name = n <;> simp [h]
      have hul : (lessC (cars.take i) n).length ≤ 10 := by
        have := List.length_filter_le (fun c : Car => decide (c.name ≠ n)) (cars.take i)
        rw [List.length_take] at this
        unfold lessC
        omega
      rw [e1]
      by_cases h : c.name = n
      · rw [show (!decide (V.str c.name = V.str n)) = false by simp [h], if_pos h, List.append_nil]
        exact iteF ⟨k1, us, u1, u2, u3⟩
      · rw [show (!decide (V.str c.name = V.str n)) = true by simp [h], if_neg h]
        refine iteT ⟨_, rfl, _, u1, by rw [List.length_map, u2]; exact small1000 (by omega), fun b o e => by rw [upd_ne (ne_of_none e hD)]; exact k1 _ _ e, us ++ [t], by rw [upd_same, List.map_append]; rfl, by rw [List.length_append, List.length_append, u2]; rfl, fun q t' c' e1 e2 => ?_⟩
        rcases snoc_get e1 with e1 | ⟨hq, rfl⟩
        · have hql := (List.getElem?_eq_some_iff.mp e1).1
          rw [List.getElem?_append_left (by omega)] at e2
          exact u3 q t' c' e1 e2
        · rw [List.getElem?_append_right (by omega), hq, u2, Nat.sub_self] at e2
          have : c = c' := by simpa using e2
          rw [← this]
          exact htv
    · rintro H1 ⟨k1, us, u1, u2, u3⟩
      rw [hl, List.take_length] at u2 u3
      refine ⟨D, _, rfl, .inl ⟨SqL.of u1, fun b hb => ?_⟩⟩
      exact k _ b (k1.trans (sameNew hb _)) ⟨us, upd_same, u2, fun i t c e1 e2 => sameNew hb _ _ _ (k1 _ _ (u3 i t c e1 e2))⟩
end
end Sl

set_option Elab.async false
set_option linter.all false
set_option maxRecDepth 100000
set_option maxHeartbeats 1000000
/-! The mathematics of one car less: only slower cars that start ahead hinder. -/
namespace OwnR
variable {α : Type}
theorem sortBy_filter (f : α → Int) (G : α → Bool) (l : List α) : (sortBy f l).filter G = sortBy f (l.filter G) := by
  have e : (isort (l.map fun x => (f x, x))).filter (fun q => G q.2) = isort ((l.filter G).map fun x => (f x, x)) := by
    refine isort_unique ((isort_up _).sublist List.filter_sublist) fun z => ?_
    have e1 : (l.filter G).map (fun x => (f x, x)) = (l.map fun x => (f x, x)).filter (fun q => G q.2) := by
      rw [List.filter_map]
      rfl
    rw [e1, List.filter_filter, List.filter_filter]
    have e2 : ∀ L : List (Int × α), L.filter (fun a => (a.1 == z) && G a.2) = (L.filter fun a => a.1 == z).filter fun a => G a.2 := fun L => by
      rw [List.filter_filter]
      exact List.filter_congr fun a _ => Bool.and_comm _ _
    rw [e2, e2, isort_row]
  unfold sortBy
  rw [List.filter_map, ← e]
  rfl
theorem sortBy_up (f : α → Int) (l : List α) : (sortBy f l).Pairwise (fun a b => f a ≤ f b) := by
  unfold sortBy
  rw [List.pairwise_map]
  have h : ∀ q ∈ isort (l.map fun x => (f x, x)), q.1 = f q.2 := fun q hq => by
    obtain ⟨x, _, rfl⟩ := List.mem_map.mp ((isort_perm _).mem_iff.mp hq)
    rfl
  refine (isort_up (l.map fun x => (f x, x))).imp_of_mem fun ha hb hab => ?_
  rw [← h _ ha, ← h _ hb]
  exact hab
end OwnR
namespace Sl
open OwnR
section
variable {N : Type} [DecidableEq N]
theorem foll_append (f : N → Int) (a : List N) : ∀ b : List N, ∃ r, foll f (a ++ b) = foll f a ++ r := by
  intro b
  induction b generalizing a with
  | nil => exact ⟨[], by simp⟩
  | cons n r ih =>
    obtain ⟨r', h⟩ := ih (a ++ [n])
    rw [List.append_assoc, List.singleton_append] at h
    exact ⟨fnext f (foll f a) n :: r', by rw [h, foll_snoc, List.append_assoc, List.singleton_append]⟩
theorem foll_at (f : N → Int) {l : List N} {i : Nat} {x : N} (h : l[i]? = some x) : (foll f l)[i]? = some (fnext f (foll f (l.take i)) x) := by
  have hi : i < l.length := (List.getElem?_eq_some_iff.mp h).1
  have e : l = (l.take i ++ [x]) ++ l.drop (i + 1) := by
    rw [← tk1 h, List.take_append_drop]
  obtain ⟨r, hr⟩ := foll_append f (l.take i ++ [x]) (l.drop (i + 1))
  rw [← e, foll_snoc] at hr
  have hl : (foll f (l.take i)).length = i := by rw [foll_length, List.length_take]; omega
  rw [hr, List.getElem?_append_left (by rw [List.length_append, hl]; simp), List.getElem?_append_right (by omega), hl, Nat.sub_self]
  rfl
/-- the tick of a row is the largest of the free ticks so far -/
theorem foll_max (f : N → Int) (l : List N) : ∀ (i : Nat) (r : RowT N), (foll f l)[i]? = some r → (∀ (j : Nat) (y : N), j ≤ i → l[j]? = some y → f y ≤ r.2.1) ∧ ∃ (j : Nat) (y : N), j ≤ i ∧ l[j]? = some y ∧ f y = r.2.1 := by
  intro i
  induction i with
  | zero =>
    intro r hr
    have hlen := (List.getElem?_eq_some_iff.mp hr).1
    rw [foll_length] at hlen
    obtain ⟨x, hx⟩ : ∃ x, l[0]? = some x := ⟨_, List.getElem?_eq_getElem hlen⟩
    rw [foll_at f hx] at hr
    have e : r = (x, f x, none) := (Option.some.inj hr).symm
    subst e
    refine ⟨fun j y hj hy => ?_, 0, x, Nat.le_refl _, hx, rfl⟩
    have : j = 0 := by omega
    subst this
    rw [hx] at hy
    rw [← Option.some.inj hy]
    exact Int.le_refl _
  | succ i ih =>
    intro r hr
    have hlen := (List.getElem?_eq_some_iff.mp hr).1
    rw [foll_length] at hlen
    obtain ⟨x, hx⟩ : ∃ x, l[i + 1]? = some x := ⟨_, List.getElem?_eq_getElem hlen⟩
    obtain ⟨x0, hx0⟩ : ∃ x, l[i]? = some x := ⟨_, List.getElem?_eq_getElem (by omega)⟩
    have h0 := foll_at f hx0
    obtain ⟨h1, j0, y0, hj0, hy0, e0⟩ := ih _ h0
    rw [foll_at f hx] at hr
    have hlast : (foll f (l.take (i + 1))).getLast? = some (fnext f (foll f (l.take i)) x0) := by
      rw [tk1 hx0, foll_snoc, List.getLast?_append]
      simp
    generalize fnext f (foll f (l.take i)) x0 = r0 at *
    obtain ⟨a, t, q⟩ := r0
    have er : r = if f x < t then (x, t, some (q.getD a)) else (x, f x, none) := by
      rw [← Option.some.inj hr]
      unfold fnext
      rw [hlast]
    have et : r.2.1 = max t (f x) := by
      rw [er]
      split
      · show t = _
        omega
      · show f x = _
        omega
    rw [et]
    refine ⟨fun j y hj hy => ?_, ?_⟩
    · rcases Nat.lt_or_ge j (i + 1) with h | h
      · have := h1 j y (by omega) hy
        have e : (a, t, q).2.1 = t := rfl
        rw [e] at this
        omega
      · have : j = i + 1 := by omega
        subst this
        rw [hx] at hy
        rw [← Option.some.inj hy]
        omega
    · rcases Int.lt_or_le (f x) t with h | h
      · refine ⟨j0, y0, by omega, hy0, ?_⟩
        rw [e0]
        show t = _
        omega
      · exact ⟨i + 1, x, Nat.le_refl _, hx, by omega⟩
theorem tick_at (f : N → Int) {l : List N} (nd : l.Nodup) {i : Nat} {x : N} (h : l[i]? = some x) : ∃ r, (foll f l)[i]? = some r ∧ tickOf (foll f l) x = r.2.1 := by
  refine ⟨_, foll_at f h, ?_⟩
  have e := look_get (by rw [foll_names]; exact nd) (foll_at f h)
  rw [fnext_name] at e
  unfold tickOf
  rw [e]
  rfl
theorem tick_max (f : N → Int) {l : List N} (nd : l.Nodup) {i : Nat} {x : N} (h : l[i]? = some x) : (∀ (j : Nat) (y : N), j ≤ i → l[j]? = some y → f y ≤ tickOf (foll f l) x) ∧ ∃ (j : Nat) (y : N), j ≤ i ∧ l[j]? = some y ∧ f y = tickOf (foll f l) x := by
  obtain ⟨r, h1, h2⟩ := tick_at f nd h
  rw [h2]
  exact foll_max f l i r h1
/-- of two cars the one ahead leaves no later -/
theorem tick_mono (f : N → Int) {l : List N} (nd : l.Nodup) {i j : Nat} {x y : N} (hi : l[i]? = some x) (hj : l[j]? = some y) (h : i ≤ j) : tickOf (foll f l) x ≤ tickOf (foll f l) y := by
  obtain ⟨_, k, z, hk, hz, e⟩ := tick_max f nd hi
  obtain ⟨h2, _⟩ := tick_max f nd hj
  rw [← e]
  exact h2 k z (by omega) hz
end
end Sl

set_option Elab.async false
set_option linter.all false
set_option maxRecDepth 100000
set_option maxHeartbeats 1000000
namespace OwnR
section
variable {α : Type}
theorem ins_pw {Q : Int × α → Int × α → Prop} (p : Int × α) : ∀ L : List (Int × α), L.Pairwise Q → (∀ b ∈ L, Q p b ∧ (b.1 < p.1 → Q b p)) → (ins p L).Pairwise Q
  | [], _, _ => List.pairwise_singleton _ _
  | q :: r, h, hb => by
    unfold ins
    split
    · exact List.pairwise_cons.mpr ⟨fun b hm => (hb b hm).1, h⟩
    · rename_i hc
      obtain ⟨h1, h2⟩ := List.pairwise_cons.mp h
      refine List.pairwise_cons.mpr ⟨fun b hm => ?_, ins_pw p r h2 fun b hm => hb b (List.mem_cons_of_mem _ hm)⟩
      rcases List.mem_cons.mp ((ins_perm p r).mem_iff.mp hm) with e | hm
      · rw [e]
        exact (hb q List.mem_cons_self).2 (by omega)
      · exact h1 b hm
theorem isort_pw {Q : Int × α → Int × α → Prop} : ∀ L : List (Int × α), L.Pairwise (fun a b => Q a b ∧ (b.1 < a.1 → Q b a)) → (isort L).Pairwise Q
  | [], _ => List.Pairwise.nil
  | p :: r, h => by
    obtain ⟨h1, h2⟩ := List.pairwise_cons.mp h
    exact ins_pw p _ (isort_pw r h2) fun b hb => h1 b ((isort_perm r).mem_iff.mp hb)
theorem sortBy_pw {Q : α → α → Prop} (f : α → Int) (l : List α) (h : l.Pairwise (fun a b => Q a b ∧ (f b < f a → Q b a))) : (sortBy f l).Pairwise Q := by
  unfold sortBy
  rw [List.pairwise_map]
  refine isort_pw (Q := fun a b => Q a.2 b.2) _ ?_
  rw [List.pairwise_map]
  exact h
end
end OwnR
namespace Sl
open OwnR
section
variable {N : Type} [DecidableEq N]
theorem foll_congr {f g : N → Int} : ∀ {l : List N}, (∀ x ∈ l, f x = g x) → ∀ acc : List (RowT N), l.foldl (fun acc n => acc ++ [fnext f acc n]) acc = l.foldl (fun acc n => acc ++ [fnext g acc n]) acc
  | [], _, _ => rfl
  | n :: r, h, acc => by
    have e : fnext f acc n = fnext g acc n := by
      unfold fnext
      rw [h n List.mem_cons_self]
    rw [List.foldl_cons, List.foldl_cons, e]
    exact foll_congr (fun x hx => h x (List.mem_cons_of_mem _ hx)) _
theorem tick_split (f : N → Int) {p q : List N} {x : N} (nd : (p ++ x :: q).Nodup) : (∀ y, (y ∈ p ∨ y = x) → f y ≤ tickOf (foll f (p ++ x :: q)) x) ∧ ∃ y, (y ∈ p ∨ y = x) ∧ f y = tickOf (foll f (p ++ x :: q)) x := by
  have hx : (p ++ x :: q)[p.length]? = some x := by simp
  obtain ⟨h1, j, y, hj, hy, e⟩ := tick_max f nd hx
  refine ⟨fun y hy => ?_, y, ?_, e⟩
  · rcases hy with hy | rfl
    · obtain ⟨j, hj⟩ := List.mem_iff_getElem?.mp hy
      have hl := (List.getElem?_eq_some_iff.mp hj).1
      exact h1 j y (by omega) (by rw [List.getElem?_append_left hl]; exact hj)
    · exact h1 _ _ (Nat.le_refl _) hx
  · rcases Nat.lt_or_ge j p.length with h | h
    · rw [List.getElem?_append_left h] at hy
      exact .inl (List.mem_of_getElem? hy)
    · have : j = p.length := by omega
      subst this
      rw [hx] at hy
      exact .inr (Option.some.inj hy).symm
/-- cars that are ahead and freer don't count -/
theorem tick_filter (f : N → Int) (G : N → Bool) {l : List N} (nd : l.Nodup) (hp : l.Pairwise fun y x => G x = true → ¬ G y = true → f y ≤ f x) {x : N} (hx : x ∈ l) (gx : G x = true) : tickOf (foll f l) x = tickOf (foll f (l.filter G)) x := by
  obtain ⟨p, q, rfl⟩ := List.append_of_mem hx
  have ef : (p ++ x :: q).filter G = p.filter G ++ x :: q.filter G := by
    rw [List.filter_append, List.filter_cons, if_pos gx]
  have nd2 := nd.sublist (List.filter_sublist (p := G))
  rw [ef] at nd2 ⊢
  obtain ⟨a1, y, hy, ey⟩ := tick_split f nd
  obtain ⟨b1, z, hz, ez⟩ := tick_split f nd2
  refine Int.le_antisymm ?_ ?_
  · rw [← ey]
    rcases hy with hy | rfl
    · by_cases gy : G y = true
      · exact b1 y (.inl (List.mem_filter.mpr ⟨hy, gy⟩))
      · exact Int.le_trans ((List.pairwise_append.mp hp).2.2 y hy x List.mem_cons_self gx gy) (b1 x (.inr rfl))
    · exact b1 y (.inr rfl)
  · rw [← ez]
    rcases hz with hz | rfl
    · exact a1 z (.inl (List.mem_filter.mp hz).1)
    · exact a1 z (.inr rfl)
/-- what holds at each place: the order goes by ticks, and G holds all slower cars ahead of its own -/
structure Inv1 (pace : N → Int) (G : N → Bool) (P : Pl N) : Prop where
  nd : P.ord.Nodup
  pw : P.ord.Pairwise fun y x => P.tk y ≤ P.tk x ∧ (pace x < pace y → G x = true → G y = true)
theorem free_mono {pace : N → Int} {P : Pl N} {a b : N} (len : Nat) (h : P.tk a ≤ P.tk b) (hp : pace a ≤ pace b) : freeP pace P len a ≤ freeP pace P len b := by
  unfold freeP
  have : pace a * (len : Int) ≤ pace b * (len : Int) := Int.mul_le_mul_of_nonneg_right hp (Int.natCast_nonneg _)
  omega
theorem Inv1.step {pace : N → Int} {G : N → Bool} {P : Pl N} (I : Inv1 pace G P) (s : Bool × Nat) : Inv1 pace G (stepP pace P s) := by
  refine ⟨(stepP_perm pace P s).nodup_iff.mpr I.nd, ?_⟩
  unfold stepP
  split
  · refine List.Pairwise.and (sortBy_up _ _) (sortBy_pw (Q := fun y x => pace x < pace y → G x = true → G y = true) _ _ (I.pw.imp fun {a b} h => ⟨h.2, fun hf hp => ?_⟩))
    have := free_mono (pace := pace) (P := P) s.2 h.1 (Int.le_of_lt hp)
    omega
  · rw [List.pairwise_iff_getElem]
    intro i j hi hj h
    have := (List.pairwise_iff_getElem.mp I.pw) i j hi hj h
    exact ⟨tick_mono _ I.nd (List.getElem?_eq_getElem hi) (List.getElem?_eq_getElem hj) (Nat.le_of_lt h), this.2⟩
structure Sim1 (pace pace' : N → Int) (G : N → Bool) (P P' : Pl N) : Prop where
  i1 : Inv1 pace G P
  i2 : Inv1 pace' G P'
  od : P.ord.filter G = P'.ord.filter G
  tk : ∀ x ∈ P.ord, G x = true → P.tk x = P'.tk x
  pc : ∀ x ∈ P.ord, G x = true → pace x = pace' x
theorem Sim1.mem {pace pace' : N → Int} {G : N → Bool} {P P' : Pl N} (S : Sim1 pace pace' G P P') {x : N} (gx : G x = true) : x ∈ P.ord ↔ x ∈ P'.ord := by
  have : x ∈ P.ord.filter G ↔ x ∈ P'.ord.filter G := by rw [S.od]
  rw [List.mem_filter, List.mem_filter] at this
  exact ⟨fun h => (this.mp ⟨h, gx⟩).1, fun h => (this.mpr ⟨h, gx⟩).1⟩
theorem Inv1.free {pace : N → Int} {G : N → Bool} {P : Pl N} (I : Inv1 pace G P) (len : Nat) : P.ord.Pairwise fun y x => G x = true → ¬ G y = true → freeP pace P len y ≤ freeP pace P len x :=
  I.pw.imp fun {a b} h gb ga => free_mono len h.1 (by
    rcases Int.lt_or_le (pace b) (pace a) with hlt | hle
    · exact absurd (h.2 hlt gb) ga
    · exact hle)
theorem Sim1.step {pace pace' : N → Int} {G : N → Bool} {P P' : Pl N} (S : Sim1 pace pace' G P P') (s : Bool × Nat) : Sim1 pace pace' G (stepP pace P s) (stepP pace' P' s) := by
  have hf : ∀ x ∈ P.ord, G x = true → freeP pace P s.2 x = freeP pace' P' s.2 x := fun x hx gx => by
    unfold freeP
    rw [S.tk x hx gx, S.pc x hx gx]
  have hm : ∀ x, x ∈ (stepP pace P s).ord → x ∈ P.ord := fun x hx => (stepP_perm pace P s).mem_iff.mp hx
  refine ⟨S.i1.step s, S.i2.step s, ?_, fun x hx gx => ?_, fun x hx gx => S.pc x (hm x hx) gx⟩
  · unfold stepP
    split
    · show (sortBy (freeP pace P s.2) P.ord).filter G = (sortBy (freeP pace' P' s.2) P'.ord).filter G
      rw [sortBy_filter, sortBy_filter, ← S.od]
      exact sortBy_congr _ _ _ fun x hx => hf x (List.mem_filter.mp hx).1 (List.mem_filter.mp hx).2
    · exact S.od
  · have hx := hm x hx
    unfold stepP
    split
    · exact hf x hx gx
    · show tickOf (foll (freeP pace P s.2) P.ord) x = tickOf (foll (freeP pace' P' s.2) P'.ord) x
      rw [tick_filter _ G S.i1.nd (S.i1.free s.2) hx gx, tick_filter _ G S.i2.nd (S.i2.free s.2) ((S.mem gx).mp hx) gx, ← S.od]
      congr 1
      exact foll_congr (fun y hy => hf y (List.mem_filter.mp hy).1 (List.mem_filter.mp hy).2) []
theorem Sim1.plc {pace pace' : N → Int} {G : N → Bool} {P P' : Pl N} (S : Sim1 pace pace' G P P') (secs : List (Bool × Nat)) : ∀ k, k ≤ secs.length → Sim1 pace pace' G (plc pace P secs k) (plc pace' P' secs k)
  | 0, _ => S
  | k + 1, h => by
    obtain ⟨s, hs⟩ : ∃ s, secs[k]? = some s := ⟨_, List.getElem?_eq_getElem (by omega)⟩
    rw [plc_succ pace P secs hs, plc_succ pace' P' secs hs]
    exact (Sim1.plc S secs k (by omega)).step s
end
end Sl

set_option Elab.async false
set_option linter.all false
set_option maxRecDepth 100000
set_option maxHeartbeats 1000000
/-! The mathematics of chains: level by level, and all paths. -/
namespace Sl
open PySem PySem.Spec L2 OwnR LamX
abbrev Ch := Str × List Str
def keysC (A : List Ch) : List Str := A.map (·.1)
/-- those with a new end, the first of each -/
def dd : List Str → List Ch → List Ch
  | _, [] => []
  | seen, c :: r => if c.1 ∈ seen then dd seen r else c :: dd (seen ++ [c.1]) r
theorem dd_seen : ∀ (s1 s2 : List Str) (xs : List Ch), (∀ x, x ∈ s1 ↔ x ∈ s2) → dd s1 xs = dd s2 xs
  | _, _, [], _ => rfl
  | s1, s2, c :: r, h => by
    show (if c.1 ∈ s1 then dd s1 r else c :: dd (s1 ++ [c.1]) r) = (if c.1 ∈ s2 then dd s2 r else c :: dd (s2 ++ [c.1]) r)
    by_cases q : c.1 ∈ s1
    · rw [if_pos q, if_pos ((h _).mp q), dd_seen s1 s2 r h]
    · rw [if_neg q, if_neg fun z => q ((h _).mpr z), dd_seen (s1 ++ [c.1]) (s2 ++ [c.1]) r fun x => by simp [h x]]
theorem dd_app : ∀ (s : List Str) (a b : List Ch), dd s (a ++ b) = dd s a ++ dd (s ++ keysC (dd s a)) b
  | s, [], b => by simp [dd, keysC]
  | s, c :: r, b => by
    show (if c.1 ∈ s then dd s (r ++ b) else c :: dd (s ++ [c.1]) (r ++ b)) = (if c.1 ∈ s then dd s r else c :: dd (s ++ [c.1]) r) ++ dd (s ++ keysC (if c.1 ∈ s then dd s r else c :: dd (s ++ [c.1]) r)) b
    by_cases q : c.1 ∈ s
    · rw [if_pos q, if_pos q, dd_app s r b]
    · rw [if_neg q, if_neg q, dd_app (s ++ [c.1]) r b]
      show c :: (dd (s ++ [c.1]) r ++ _) = c :: (dd (s ++ [c.1]) r ++ _)
      congr 2
      refine dd_seen _ _ _ fun x => ?_
      simp [keysC]
theorem dd_key : ∀ (s : List Str) (xs : List Ch) (c : Ch), c ∈ xs → c.1 ∈ s ∨ c.1 ∈ keysC (dd s xs)
  | s, x :: r, c, h => by
    show _ ∨ c.1 ∈ keysC (if x.1 ∈ s then dd s r else x :: dd (s ++ [x.1]) r)
    rcases List.mem_cons.mp h with rfl | h
    · by_cases q : c.1 ∈ s
      · exact .inl q
      · rw [if_neg q]
        exact .inr List.mem_cons_self
    · by_cases q : x.1 ∈ s
      · rw [if_pos q]
        exact dd_key s r c h
      · rw [if_neg q]
        rcases dd_key (s ++ [x.1]) r c h with z | z
        · rcases List.mem_append.mp z with z | z
          · exact .inl z
          · rw [List.mem_singleton.mp z]
            exact .inr List.mem_cons_self
        · exact .inr (List.mem_cons_of_mem _ z)
theorem dd_sub : ∀ (s : List Str) (xs : List Ch) (c : Ch), c ∈ dd s xs → c ∈ xs ∧ c.1 ∉ s
  | s, x :: r, c, h => by
    have h : c ∈ (if x.1 ∈ s then dd s r else x :: dd (s ++ [x.1]) r) := h
    by_cases q : x.1 ∈ s
    · rw [if_pos q] at h
      have := dd_sub s r c h
      exact ⟨List.mem_cons_of_mem _ this.1, this.2⟩
    · rw [if_neg q] at h
      rcases List.mem_cons.mp h with rfl | h
      · exact ⟨List.mem_cons_self, q⟩
      · have := dd_sub (s ++ [x.1]) r c h
        exact ⟨List.mem_cons_of_mem _ this.1, fun z => this.2 (List.mem_append_left _ z)⟩
theorem dd_nd : ∀ (s : List Str) (xs : List Ch), (keysC (dd s xs)).Nodup
  | _, [] => List.nodup_nil
  | s, x :: r => by
    show (keysC (if x.1 ∈ s then dd s r else x :: dd (s ++ [x.1]) r)).Nodup
    by_cases q : x.1 ∈ s
    · rw [if_pos q]
      exact dd_nd s r
    · rw [if_neg q]
      show (x.1 :: keysC (dd (s ++ [x.1]) r)).Nodup
      refine List.nodup_cons.mpr ⟨fun z => ?_, dd_nd _ r⟩
      obtain ⟨c, hc, e⟩ := List.mem_map.mp z
      exact (dd_sub _ _ c hc).2 (by rw [e]; simp)
theorem dd_drop : ∀ (s : List Str) (xs : List Ch) (p : Ch → Bool), (∀ c ∈ xs, p c = false → c.1 ∈ s) → dd s (xs.filter p) = dd s xs
  | _, [], _, _ => rfl
  | s, x :: r, p, h => by
    have hr : ∀ s', (∀ y, y ∈ s → y ∈ s') → dd s' (r.filter p) = dd s' r := fun s' hs => dd_drop s' r p fun c hc hp => hs _ (h c (List.mem_cons_of_mem _ hc) hp)
    rw [List.filter_cons]
    show dd s (if p x = true then x :: r.filter p else r.filter p) = (if x.1 ∈ s then dd s r else x :: dd (s ++ [x.1]) r)
    by_cases hp : p x = true
    · rw [if_pos hp]
      show (if x.1 ∈ s then dd s (r.filter p) else x :: dd (s ++ [x.1]) (r.filter p)) = _
      rw [hr s fun _ z => z, hr (s ++ [x.1]) fun _ z => List.mem_append_left _ z]
    · rw [if_neg hp, hr s fun _ z => z, if_pos (h x List.mem_cons_self (by simpa using hp))]
section
variable (chg : List Str) (lead : Str → Str → Bool)
/-- one more car, one that the last one leads -/
def ext1 (c : Ch) : List Ch := (chg.filter fun v => lead c.1 v).map fun v => (v, c.2 ++ [v])
def extC (xs : List Ch) : List Ch := xs.flatMap (ext1 chg lead)
/-- and is not in the chain already -/
def ext2 (c : Ch) : List Ch := (chg.filter fun v => !decide (v ∈ c.2) && lead c.1 v).map fun v => (v, c.2 ++ [v])
def extP (xs : List Ch) : List Ch := xs.flatMap (ext2 chg lead)
theorem ext1_keys (c : Ch) : keysC (ext1 chg lead c) = chg.filter fun v => lead c.1 v := by
  unfold ext1 keysC
  rw [List.map_map]
  exact List.map_id _
theorem dd_ext_nil {s : List Str} {xs : List Ch} (h : ∀ c ∈ xs, c.1 ∈ s) : dd s xs = [] := by
  cases q : dd s xs with
  | nil => rfl
  | cons c r =>
    have := dd_sub s xs c (by rw [q]; exact List.mem_cons_self)
    exact absurd (h c this.1) this.2
/-- only the first chain to each car counts -/
theorem dd_ext : ∀ (xs : List Ch) (old s : List Str), (∀ u ∈ old, ∀ v ∈ chg, lead u v = true → v ∈ s) → dd s (extC chg lead xs) = dd s (extC chg lead (dd old xs))
  | [], _, _, _ => rfl
  | c :: r, old, s, h => by
    show dd s (ext1 chg lead c ++ extC chg lead r) = dd s (extC chg lead (if c.1 ∈ old then dd old r else c :: dd (old ++ [c.1]) r))
    rw [dd_app]
    by_cases q : c.1 ∈ old
    · rw [if_pos q, dd_ext_nil (s := s) (xs := ext1 chg lead c) fun d hd => ?_]
      · show dd (s ++ []) _ = _
        rw [List.append_nil]
        exact dd_ext r old s h
      · obtain ⟨v, hv, rfl⟩ := List.mem_map.mp hd
        obtain ⟨h1, h2⟩ := List.mem_filter.mp hv
        exact h _ q v h1 h2
    · rw [if_neg q]
      show _ = dd s (ext1 chg lead c ++ extC chg lead (dd (old ++ [c.1]) r))
      rw [dd_app]
      congr 1
      refine dd_ext r (old ++ [c.1]) _ fun u hu v hv hl => ?_
      rcases List.mem_append.mp hu with hu | hu
      · exact List.mem_append_left _ (h u hu v hv hl)
      · rw [List.mem_singleton.mp hu] at hl
        have hm : (v, c.2 ++ [v]) ∈ ext1 chg lead c := List.mem_map.mpr ⟨v, List.mem_filter.mpr ⟨hv, hl⟩, rfl⟩
        rcases dd_key s _ _ hm with z | z
        · exact List.mem_append_left _ z
        · exact List.mem_append_right _ z
theorem ext2_filter (c : Ch) : ext2 chg lead c = (ext1 chg lead c).filter fun d => !decide (d.1 ∈ c.2) := by
  unfold ext1 ext2
  rw [List.filter_map, List.filter_filter]
  congr 1
theorem extP_dd {s : List Str} : ∀ xs : List Ch, (∀ c ∈ xs, ∀ x ∈ c.2, x ∈ s) → dd s (extP chg lead xs) = dd s (extC chg lead xs) := by
  have key : ∀ (xs : List Ch) (s' : List Str), (∀ c ∈ xs, ∀ x ∈ c.2, x ∈ s') → dd s' (extP chg lead xs) = dd s' (extC chg lead xs) := by
    intro xs
    induction xs with
    | nil => intro _ _; rfl
    | cons c r ih =>
      intro s' h
      show dd s' (ext2 chg lead c ++ extP chg lead r) = dd s' (ext1 chg lead c ++ extC chg lead r)
      have e : dd s' (ext2 chg lead c) = dd s' (ext1 chg lead c) := by
        rw [ext2_filter]
        refine dd_drop _ _ _ fun d _ hp => h c List.mem_cons_self _ (by simpa using hp)
      rw [dd_app, dd_app, e]
      congr 1
      exact ih _ fun c' hc' x hx => List.mem_append_left _ (h c' (List.mem_cons_of_mem _ hc') x hx)
  exact fun xs h => key xs s h
variable (m : Str)
/-- level by level: all chains, the last level's -/
def bfs : Nat → List Ch × List Ch
  | 0 => ([(m, [m])], [(m, [m])])
  | k + 1 => let N := dd (keysC (bfs k).1) (extC chg lead (bfs k).2); ((bfs k).1 ++ N, N)
/-- all paths -/
def pth : Nat → List Ch
  | 0 => [(m, [m])]
  | k + 1 => extP chg lead (pth k)
/-- the first path to each car -/
def fst1 : Nat → List Ch
  | 0 => []
  | k + 1 => fst1 k ++ dd (keysC (fst1 k)) (pth chg lead m (k + 1))
def oldK : Nat → List Str
  | 0 => []
  | k + 1 => keysC (bfs chg lead m k).1
structure BfsI (k : Nat) : Prop where
  eq : (bfs chg lead m k).1 = (m, [m]) :: fst1 chg lead m k
  nw : (bfs chg lead m k).2 = dd (oldK chg lead m k) (pth chg lead m k)
  el : ∀ c ∈ pth chg lead m k, ∀ x ∈ c.2, x ∈ keysC (bfs chg lead m k).1
  cl : ∀ u ∈ oldK chg lead m k, ∀ v ∈ chg, lead u v = true → v ∈ keysC (bfs chg lead m k).1
  al : ∀ u ∈ keysC (bfs chg lead m k).1, u ∈ oldK chg lead m k ∨ u ∈ keysC (bfs chg lead m k).2
theorem bfsI (hm : m ∉ chg) : ∀ k, BfsI chg lead m k
  | 0 => ⟨rfl, rfl, fun c hc x hx => by
      rw [List.mem_singleton.mp hc] at hx
      rw [List.mem_singleton.mp hx]
      exact List.mem_singleton.mpr rfl, fun u hu => (nomatch hu), fun u hu => .inr hu⟩
  | k + 1 => by
    have I := bfsI hm k
    have e1 : (bfs chg lead m (k + 1)).2 = dd (keysC (bfs chg lead m k).1) (pth chg lead m (k + 1)) := by
      show dd (keysC (bfs chg lead m k).1) (extC chg lead (bfs chg lead m k).2) = dd (keysC (bfs chg lead m k).1) (extP chg lead (pth chg lead m k))
      rw [extP_dd chg lead _ I.el, I.nw, ← dd_ext chg lead _ _ _ I.cl]
    have e2 : (bfs chg lead m (k + 1)).1 = (bfs chg lead m k).1 ++ (bfs chg lead m (k + 1)).2 := rfl
    have hk : ∀ x, x ∈ keysC (bfs chg lead m (k + 1)).1 ↔ x ∈ keysC (bfs chg lead m k).1 ∨ x ∈ keysC (bfs chg lead m (k + 1)).2 := fun x => by
      rw [e2]
      unfold keysC
      rw [List.map_append, List.mem_append]
    refine ⟨?_, e1, fun c hc x hx => ?_, fun u hu v hv hl => ?_, fun u hu => (hk u).mp hu⟩
    · rw [e2, e1, I.eq]
      show (m, [m]) :: (fst1 chg lead m k ++ _) = (m, [m]) :: (fst1 chg lead m k ++ _)
      congr 2
      have hd : ∀ (s : List Str) (xs : List Ch), (∀ c ∈ xs, c.1 ≠ m) → dd (m :: s) xs = dd s xs := by
        intro s xs
        induction xs generalizing s with
        | nil => intro _; rfl
        | cons c r ih =>
          intro h
          have hc := h c List.mem_cons_self
          show (if c.1 ∈ m :: s then dd (m :: s) r else c :: dd (m :: s ++ [c.1]) r) = (if c.1 ∈ s then dd s r else c :: dd (s ++ [c.1]) r)
          have ih' := fun s => ih s fun d hd => h d (List.mem_cons_of_mem _ hd)
          by_cases q : c.1 ∈ s
          · rw [if_pos q, if_pos (List.mem_cons_of_mem _ q), ih']
          · rw [if_neg q, if_neg (by simp [hc, q])]
            show c :: dd (m :: (s ++ [c.1])) r = _
            rw [ih']
      refine hd _ _ fun c hc => ?_
      obtain ⟨d, _, hd2⟩ := List.mem_flatMap.mp hc
      obtain ⟨v, hv, rfl⟩ := List.mem_map.mp hd2
      exact fun z => hm (z ▸ (List.mem_filter.mp hv).1)
    · obtain ⟨d, hd1, hd2⟩ := List.mem_flatMap.mp hc
      obtain ⟨v, hv, rfl⟩ := List.mem_map.mp hd2
      rcases List.mem_append.mp hx with hx | hx
      · exact (hk x).mpr (.inl (I.el d hd1 x hx))
      · rw [List.mem_singleton.mp hx]
        refine (hk v).mpr ?_
        rw [e1]
        exact dd_key _ _ (v, d.2 ++ [v]) hc
    · have hu : u ∈ keysC (bfs chg lead m k).1 := hu
      rcases I.al u hu with q | q
      · exact (hk v).mpr (.inl (I.cl u q v hv hl))
      · obtain ⟨c, hc, rfl⟩ := List.mem_map.mp q
        refine (hk v).mpr ?_
        exact dd_key _ (extC chg lead (bfs chg lead m k).2) (v, c.2 ++ [v]) (List.mem_flatMap.mpr ⟨c, hc, List.mem_map.mpr ⟨v, List.mem_filter.mpr ⟨hv, hl⟩, rfl⟩⟩)
/-- the cars that no chain has reached -/
def cnt (k : Nat) : Nat := (chg.filter fun v => !decide (v ∈ keysC (bfs chg lead m k).1)).length
theorem filter_less {p q : Str → Bool} : ∀ {l : List Str}, (∀ x ∈ l, p x = true → q x = true) → (∃ x ∈ l, q x = true ∧ p x = false) → (l.filter p).length < (l.filter q).length
  | [], _, ⟨x, hx, _⟩ => nomatch hx
  | a :: l, h, ⟨x, hx, hq, hp⟩ => by
    have le : (l.filter p).length ≤ (l.filter q).length := by
      clear hx hq hp
      have h2 : ∀ x ∈ l, p x = true → q x = true := fun x hx => h x (List.mem_cons_of_mem _ hx)
      clear h
      induction l with
      | nil => exact Nat.le_refl _
      | cons b r ih =>
        have := ih fun x hx => h2 x (List.mem_cons_of_mem _ hx)
        rw [List.filter_cons, List.filter_cons]
        cases hpb : p b with
        | true =>
          rw [h2 b List.mem_cons_self hpb]
          simp
          exact this
        | false =>
          cases q b <;> simp <;> omega
    rw [List.filter_cons, List.filter_cons]
    rcases List.mem_cons.mp hx with rfl | hx
    · rw [hq, hp]
      simp
      omega
    · have ih := filter_less (l := l) (fun y hy => h y (List.mem_cons_of_mem _ hy)) ⟨x, hx, hq, hp⟩
      cases hpa : p a with
      | true =>
        rw [h a List.mem_cons_self hpa]
        simp
        exact ih
      | false =>
        cases q a <;> simp <;> omega
theorem bfs_more (k : Nat) : ∃ N, (bfs chg lead m (k + 1)).1 = (bfs chg lead m k).1 ++ N := ⟨_, rfl⟩
theorem bfs_keys (k : Nat) {x : Str} (h : x ∈ keysC (bfs chg lead m k).1) : x ∈ keysC (bfs chg lead m (k + 1)).1 := by
  obtain ⟨N, e⟩ := bfs_more chg lead m k
  rw [e]
  unfold keysC at h ⊢
  rw [List.map_append]
  exact List.mem_append_left _ h
/-- what is closed holds all that changes -/
def Reach : Prop := ∀ S : List Str, m ∈ S → (∀ u ∈ S, ∀ v ∈ chg, lead u v = true → v ∈ S) → ∀ v ∈ chg, v ∈ S
theorem bfs_m : ∀ k, m ∈ keysC (bfs chg lead m k).1
  | 0 => List.mem_singleton.mpr rfl
  | k + 1 => bfs_keys chg lead m k (bfs_m k)
theorem bfs_stop (hm : m ∉ chg) (hR : Reach chg lead m) {k : Nat} (h : (bfs chg lead m (k + 1)).2 = []) : ∀ v ∈ chg, v ∈ keysC (bfs chg lead m k).1 := by
  refine hR _ (bfs_m chg lead m k) fun u hu v hv hl => ?_
  have e : (bfs chg lead m (k + 1)).1 = (bfs chg lead m k).1 := by
    show (bfs chg lead m k).1 ++ (bfs chg lead m (k + 1)).2 = _
    rw [h, List.append_nil]
  have := (bfsI chg lead m hm (k + 1)).cl u hu v hv hl
  rw [e] at this
  exact this
theorem cnt_less (hm : m ∉ chg) {k : Nat} (h : (bfs chg lead m (k + 1)).2 ≠ []) : cnt chg lead m (k + 1) < cnt chg lead m k := by
  obtain ⟨c, hc⟩ := List.exists_mem_of_ne_nil _ h
  have h1 := dd_sub _ _ c hc
  obtain ⟨d, _, hd2⟩ := List.mem_flatMap.mp h1.1
  obtain ⟨v, hv, rfl⟩ := List.mem_map.mp hd2
  refine filter_less (fun x _ hx => ?_) ⟨v, (List.mem_filter.mp hv).1, by simpa using h1.2, ?_⟩
  · have : x ∉ keysC (bfs chg lead m (k + 1)).1 := by simpa using hx
    simpa using fun z => this (bfs_keys chg lead m k z)
  · have : v ∈ keysC (bfs chg lead m (k + 1)).1 := by
      show v ∈ keysC ((bfs chg lead m k).1 ++ (bfs chg lead m (k + 1)).2)
      unfold keysC
      rw [List.map_append]
      exact List.mem_append_right _ (List.mem_map.mpr ⟨_, hc, rfl⟩)
    simpa using this
theorem bfs_all (hm : m ∉ chg) (hR : Reach chg lead m) : ∀ k, (∀ v ∈ chg, v ∈ keysC (bfs chg lead m k).1) ∨ cnt chg lead m k + k ≤ chg.length
  | 0 => .inr (List.length_filter_le _ _)
  | k + 1 => by
    rcases bfs_all hm hR k with h | h
    · exact .inl fun v hv => bfs_keys chg lead m k (h v hv)
    · by_cases q : (bfs chg lead m (k + 1)).2 = []
      · exact .inl fun v hv => bfs_keys chg lead m k (bfs_stop chg lead m hm hR q v hv)
      · have := cnt_less chg lead m hm q
        exact .inr (by omega)
theorem bfs_found (hm : m ∉ chg) (hR : Reach chg lead m) {n : Nat} (hn : chg.length ≤ n) : ∀ v ∈ chg, v ∈ keysC (bfs chg lead m n).1 := by
  rcases bfs_all chg lead m hm hR n with h | h
  · exact h
  · intro v hv
    have h0 : cnt chg lead m n = 0 := by omega
    have := List.length_eq_zero_iff.mp h0
    have h2 := List.filter_eq_nil_iff.mp this v hv
    simpa using h2
/-- the chain to a car -/
def chainTo (A : List Ch) (v : Str) : Option (List Str) := (A.find? fun c => decide (c.1 = v)).map (·.2)
theorem chain_pre {A N : List Ch} {v : Str} (h : v ∈ keysC A) : chainTo (A ++ N) v = chainTo A v := by
  unfold chainTo
  rw [List.find?_append]
  obtain ⟨c, hc, e⟩ := List.mem_map.mp h
  cases q : A.find? fun c => decide (c.1 = v) with
  | none =>
    have := List.find?_eq_none.mp q c hc
    simp [e] at this
  | some d => rfl
theorem chain_le {v : Str} : ∀ (j k : Nat), v ∈ keysC (bfs chg lead m k).1 → chainTo (bfs chg lead m (k + j)).1 v = chainTo (bfs chg lead m k).1 v
  | 0, _, _ => rfl
  | j + 1, k, h => by
    have hk : ∀ j, v ∈ keysC (bfs chg lead m (k + j)).1 := by
      intro j
      induction j with
      | zero => exact h
      | succ j ih => exact bfs_keys chg lead m (k + j) ih
    obtain ⟨N, e⟩ := bfs_more chg lead m (k + j)
    show chainTo (bfs chg lead m (k + j + 1)).1 v = _
    rw [e, chain_pre (hk j), chain_le j k h]
theorem chain_same {v : Str} {j k : Nat} (h1 : v ∈ keysC (bfs chg lead m j).1) (h2 : v ∈ keysC (bfs chg lead m k).1) : chainTo (bfs chg lead m j).1 v = chainTo (bfs chg lead m k).1 v := by
  rcases Nat.le_total j k with h | h
  · obtain ⟨d, rfl⟩ := Nat.le.dest h
    exact (chain_le chg lead m d j h1).symm
  · obtain ⟨d, rfl⟩ := Nat.le.dest h
    exact chain_le chg lead m d k h2
/-- what holds of all chains -/
theorem bfs_ind {R : Ch → Prop} (h0 : R (m, [m])) (hs : ∀ c v, R c → v ∈ chg → lead c.1 v = true → R (v, c.2 ++ [v])) : ∀ k, (∀ c ∈ (bfs chg lead m k).1, R c) ∧ ∀ c ∈ (bfs chg lead m k).2, R c
  | 0 => ⟨fun c hc => by rw [List.mem_singleton.mp hc]; exact h0, fun c hc => by rw [List.mem_singleton.mp hc]; exact h0⟩
  | k + 1 => by
    obtain ⟨h1, h2⟩ := bfs_ind h0 hs k
    have hN : ∀ c ∈ (bfs chg lead m (k + 1)).2, R c := fun c hc => by
      have := (dd_sub _ _ c hc).1
      obtain ⟨d, hd1, hd2⟩ := List.mem_flatMap.mp this
      obtain ⟨v, hv, rfl⟩ := List.mem_map.mp hd2
      exact hs d v (h2 d hd1) (List.mem_filter.mp hv).1 (List.mem_filter.mp hv).2
    refine ⟨fun c hc => ?_, hN⟩
    rcases List.mem_append.mp hc with hc | hc
    · exact h1 c hc
    · exact hN c hc
theorem bfs_nd : ∀ k, (keysC (bfs chg lead m k).1).Nodup
  | 0 => by show [m].Nodup; simp
  | k + 1 => by
    show (keysC ((bfs chg lead m k).1 ++ (bfs chg lead m (k + 1)).2)).Nodup
    unfold keysC
    rw [List.map_append]
    refine List.nodup_append.mpr ⟨bfs_nd k, dd_nd _ _, fun a ha b hb e => ?_⟩
    obtain ⟨c, hc, rfl⟩ := List.mem_map.mp hb
    exact (dd_sub _ _ c hc).2 (e ▸ ha)
end
end Sl

set_option Elab.async false
set_option linter.all false
set_option maxRecDepth 100000
set_option maxHeartbeats 1000000
namespace Sl
open PySem PySem.Spec L2 OwnR LamX
/-! ### real hinderers are possible ones -/
theorem less_names (cars : List Car) (m : Str) : names (lessC cars m) = (names cars).filter fun x => decide (x ≠ m) := by
  unfold names lessC
  rw [List.filter_map]
  rfl
theorem less_pace {cars : List Car} (nd : (names cars).Nodup) {m x : Str} (hx : x ∈ names (lessC cars m)) : paceOf (lessC cars m) x = paceOf cars x ∧ startOf (lessC cars m) x = startOf cars x := by
  obtain ⟨c, hc, rfl⟩ := List.mem_map.mp hx
  have nd2 : (names (lessC cars m)).Nodup := by
    rw [less_names]
    exact nd.sublist List.filter_sublist
  have hc2 : c ∈ cars := (List.mem_filter.mp hc).1
  exact ⟨by rw [paceOf_car nd2 hc, paceOf_car nd hc2], by rw [startOf_car nd2 hc, startOf_car nd hc2]⟩
theorem less_ord {cars : List Car} (nd : (names cars).Nodup) (m : Str) : (pl0 (lessC cars m)).ord = (pl0 cars).ord.filter fun x => decide (x ≠ m) := by
  show sortBy (startOf (lessC cars m)) (names (lessC cars m)) = (sortBy (startOf cars) (names cars)).filter _
  rw [sortBy_filter, sortBy_congr (startOf cars) (startOf (lessC cars m)) (names (lessC cars m)) fun x hx => (less_pace nd hx).2, less_names]
/-- a car and its possible hinderers -/
def hindG (cars : List Car) (n : Str) (x : Str) : Bool := decide (x = n ∨ x ∈ possL cars n)
theorem inv0 {cars : List Car} (nd : (names cars).Nodup) {n : Str} (hn : n ∈ names cars) : Inv1 (paceOf cars) (hindG cars n) (pl0 cars) := by
  have ndo : (pl0 cars).ord.Nodup := (pl0_perm cars).nodup_iff.mpr nd
  have hno : n ∈ (pl0 cars).ord := (pl0_perm cars).mem_iff.mpr hn
  refine ⟨ndo, List.Pairwise.and (sortBy_up _ _) ?_⟩
  show (pl0 cars).ord.Pairwise _
  rw [List.pairwise_iff_getElem]
  intro i j hi hj hij hp gx
  have ei := List.getElem?_eq_getElem hi
  have ej := List.getElem?_eq_getElem hj
  generalize (pl0 cars).ord[i] = y at *
  generalize (pl0 cars).ord[j] = x at *
  have key : j ≤ posL n (pl0 cars).ord → paceOf cars n < paceOf cars y → y ∈ possL cars n := fun h1 h2 => by
    refine List.mem_filter.mpr ⟨List.mem_iff_getElem?.mpr ⟨i, ?_⟩, decide_eq_true h2⟩
    rw [List.getElem?_take, if_pos (by omega)]
    exact ei
  refine decide_eq_true (.inr ?_)
  rcases of_decide_eq_true gx with e | hx
  · subst e
    exact key (by rw [posL_get ndo ej]; exact Nat.le_refl _) hp
  · obtain ⟨h1, h2⟩ := List.mem_filter.mp hx
    obtain ⟨q, hq⟩ := List.mem_iff_getElem?.mp h1
    rw [List.getElem?_take] at hq
    split at hq
    · rename_i hlt
      have := nd_ix ndo hq ej
      exact key (by omega) (by have := of_decide_eq_true h2; omega)
    · cases hq
theorem sim0 {cars : List Car} (nd : (names cars).Nodup) {n m : Str} (hn : n ∈ names cars) (hne : n ≠ m) (hm : m ∉ possL cars n) : Sim1 (paceOf cars) (paceOf (lessC cars m)) (hindG cars n) (pl0 cars) (pl0 (lessC cars m)) := by
  have I := inv0 nd hn
  have gm : ∀ x, hindG cars n x = true → x ≠ m := fun x gx => by
    rcases of_decide_eq_true gx with e | h
    · rw [e]
      exact hne
    · exact fun z => hm (z ▸ h)
  have hin : ∀ x, x ∈ (pl0 cars).ord → x ≠ m → x ∈ names (lessC cars m) := fun x hx hxm => by
    rw [less_names]
    exact List.mem_filter.mpr ⟨(pl0_perm cars).mem_iff.mp hx, decide_eq_true hxm⟩
  have eo := less_ord nd m
  refine ⟨I, ⟨by rw [eo]; exact I.nd.sublist List.filter_sublist, ?_⟩, ?_, fun x hx gx => ?_, fun x hx gx => ?_⟩
  · rw [eo]
    refine (I.pw.sublist List.filter_sublist).imp_of_mem fun {a b} ha hb h => ?_
    obtain ⟨a1, a2⟩ := List.mem_filter.mp ha
    obtain ⟨b1, b2⟩ := List.mem_filter.mp hb
    obtain ⟨pa, sa⟩ := less_pace nd (hin a a1 (of_decide_eq_true a2))
    obtain ⟨pb, sb⟩ := less_pace nd (hin b b1 (of_decide_eq_true b2))
    show startOf (lessC cars m) a ≤ startOf (lessC cars m) b ∧ _
    rw [pa, sa, pb, sb]
    exact h
  · rw [eo, List.filter_filter]
    refine List.filter_congr fun x _ => ?_
    cases h : hindG cars n x with
    | false => rfl
    | true =>
      have := gm x h
      simp [this]
  · exact ((less_pace nd (hin x hx (gm x gx))).2).symm
  · exact ((less_pace nd (hin x hx (gm x gx))).1).symm
theorem less_same {secs : List Sec} {cars : List Car} (nd : (names cars).Nodup) {n m : Str} (hn : n ∈ names cars) (hne : n ≠ m) (hm : m ∉ possL cars n) : tksL secs (lessC cars m) n = tksL secs cars n := by
  unfold tksL
  refine List.map_congr_left fun k hk => ?_
  have S := (sim0 nd hn hne hm).plc secs k (by have := List.mem_range.mp hk; omega)
  exact (S.tk n ((plcC_perm secs cars k).mem_iff.mpr hn) (decide_eq_true (.inl rfl))).symm
theorem real_poss {secs : List Sec} {cars : List Car} (nd : (names cars).Nodup) {n m : Str} (hn : n ∈ names cars) (h : m ∈ realL secs cars n) : m ∈ possL cars n := by
  obtain ⟨c, hc, rfl⟩ := List.mem_map.mp h
  obtain ⟨_, h2⟩ := List.mem_filter.mp hc
  rw [Bool.and_eq_true] at h2
  by_cases hp : c.name ∈ possL cars n
  · exact hp
  · have := less_same (secs := secs) nd hn (fun z => by simp [z] at h2) hp
    simp [this] at h2
end Sl

set_option Elab.async false
set_option linter.all false
set_option maxRecDepth 100000
set_option maxHeartbeats 2000000
namespace Sl
open PySem PySem.Spec L2 OwnR LamX
/-- what the influences ask of the class Drive, of roads and of the checks -/
structure Inf (P : Program) (w : World) (K : PySem.W.Frag) (mg : Str → Option Value) (base : Heap) (CR C : Addr) (T : List (Addr × Str)) : Prop where
  M : Mg mg
  R : DriveT K mg C
  init : ∃ f fd, Mk K C f ∧ Binds K fd ["self", "road", "cars"] [] ∧ FnOk P w K mg base CX0 5 f fd ["self", "road", "cars"] (spDInit CR C T)
  has : ∃ f fd, PySem.W.findIn K (.ref C) "__contains__" = some (some (.ref f)) ∧ PySem.W.isFn K (.ref f) = true ∧ Binds K fd ["self", "x"] [] ∧ FnOk P w K mg base CX0 1 f fd ["self", "x"] (spHas C)
  get : ∃ f fd, PySem.W.findIn K (.ref C) "__getitem__" = some (some (.ref f)) ∧ PySem.W.isFn K (.ref f) = true ∧ PySem.W.fnIn K f = true ∧ Binds K fd ["self", "at"] [] ∧ FnOk P w K mg base CX0 3 f fd ["self", "at"] (spGet C)
  call : ∃ f fd ds, StX.CallO K C f ∧ Binds K fd ["self", "name", "place"] ds ∧ Vals [V.non] ds ∧ FnOk P w K mg base CX0 3 f fd ["self", "name", "place"] (spCallD C)
  leader : ∃ f fd, Fm K C "leader" "Drive.leader" sDLeader ["self", "name", "section"] f fd ∧ FnOk P w K mg base CX0 3 f fd ["self", "name", "section"] (spLeader C)
  cars : ∃ f fd, Fb K mg "check_cars" sCheckCars ["cars"] f fd ∧ FnOk P w K mg base CX0 3 f fd ["cars"] spCheckCars
  known : ∃ f fd, Fb K mg "check_known" sCheckKnown ["cars", "name"] f fd ∧ FnOk P w K mg base CX0 1 f fd ["cars", "name"] spKnown
section
variable {P : Program} {w : World} {K : PySem.W.Frag} {mg : Str → Option Value} {base : Heap}
abbrev spHasR (C : Addr) : Sp := fun vs H Q E => spHas C (vs ++ []) H Q E
abbrev spGetR (C : Addr) : Sp := fun vs H Q E => spGet C (vs ++ []) H Q E
/-! ### _changed -/
def spChanged (C : Addr) : Sp := fun vs H Q _ => ∃ (a d1 d2 : Addr) (secs : List Sec) (cars : List Car) (n : Str), vs = [.ref a, .ref d1, .ref d2] ∧ CarsAt H a cars ∧ CarsOk cars ∧ secs.length ≤ 12 ∧ DA C H d1 secs cars ∧ DA C H d2 secs (lessC cars n) ∧
  ∀ H' l, Same H H' → H l = none → H' l = some (.lst ((chgL secs cars n).map V.str)) → Q (.ref l) H'
def nChanged : List Str := ["cars", "drive", "less", "name", "start", "pace"]
theorem scChanged : FnScope nChanged ["cars", "drive", "less"] (defScope sChanged) := ⟨rfl, rfl, rfl, by decide +kernel, rfl, by decide +kernel, by decide +kernel⟩
theorem ok_changed {f CR C : Addr} {fd : FuncData} {T : List (Addr × Str)} (F : Fun K "_changed" "_changed" sChanged f fd) (I : Inf P w K mg base CR C T) : FnOk P w K mg base CX0 5 f fd ["cars", "drive", "less"] (spChanged C) := by
  refine F.ok scChanged (fun vs H Q E h => ?_) (fun cdv A outer s H vs Q E hr h => ?_)
  · obtain ⟨a, d1, d2, secs, cars, n, rfl, _⟩ := h
    rfl
  · obtain ⟨a, d1, d2, secs, cars, n, rfl, hC, CO, h12, D1, D2, k⟩ := h
    have nd := scChanged.nd
    have hu64 := hr.units
    obtain ⟨fH, dH, sH, iH, bH, GH⟩ := I.has
    obtain ⟨fG, dG, sG, iG, jG, bG, GG⟩ := I.get
    have hr1 : Room 1 (A.deeper (PyProof.Rows.envOfC "_changed" (defScope sChanged) s.heap.objs.size f cdv)) := hr.mono (by decide)
    refine ⟨_, pss_one (ps_ret (pe_lc (own := [("name", 3), ("start", 4), ("pace", 5)]) (g := gTup K 3 (gCons (gName 3) (gCons (gName 4) (gCons (gName 5) gNil)))) (tt := tAnd (tTest (tOp (rInO C (spHasR C) E0 false) (tVar 3) (tVar 2))) (tTest (tOp (rNeD K) (tSubO C (spGetR C) E0 (tVar 1) (tVar 3)) (tSubO C (spGetR C) E0 (tVar 2) (tVar 3))))) (te := tVar 3) (by rfl) nd (pi_tup (pv 0)) (blkOk_by (N := nChanged) (sc := defScope sChanged) (by decide +kernel))
          (fun _ _ _ _ _ => pg_tup rfl (pgs_cons (pg_name (i := 3) nd rfl (Or.inl rfl)) (pgs_cons (pg_name (i := 4) nd rfl (Or.inl rfl)) (pgs_cons (pg_name (i := 5) nd rfl (Or.inl rfl)) pgs_nil))))
          (fun _ _ _ _ _ => pts_one (PW.pt (pw_and (pt_cmpR (op_inO sH iH (GH.raw bH .nil) hr1 pass0) (pv 3) (pv 2) (by rfl)) (pw_and1 (pt_cmpR (op_neD hu64) (pe_subO sG iG jG (GG.raw bG .nil) hr pass0 (pv 1) (pv 3) (fun _ _ => rfl)) (pe_subO sG iG jG (GG.raw bG .nil) hr pass0 (pv 2) (pv 3) (fun _ _ => rfl)) (nomark _)))))) (fun _ _ _ _ _ => pv 3))), ?_⟩
    obtain ⟨ts, h1, h2, h3⟩ := hC
    have few := CO.few
    have hl : (ts.map V.ref).length = cars.length := by rw [List.length_map, h2]
    refine ⟨_, rfl, a, rfl, ⟨_, SqT.of h1⟩, fun D hD => ?_⟩
    refine lc_it walk_tup (fun i H1 => Same H H1 ∧ H1 D = some (.lst ((((cars.take i).filter fun c => decide (c.name ≠ n) && !decide (tksL secs cars c.name = tksL secs (lessC cars n) c.name)).map (·.name)).map V.str)))
      ⟨sameNew hD _, upd_same⟩ (fun i H1 _ ⟨k1, _⟩ => SqT.of (k1 _ _ h1)) ?_ ?_
    · rintro i y Hz H1 hi ⟨k1, hD1⟩ ⟨e, hy⟩
      subst e
      obtain ⟨t, ht, rfl⟩ : ∃ t, ts[i]? = some t ∧ y = V.ref t := by
        rw [List.getElem?_map] at hy
        obtain ⟨t, z1, z2⟩ := Option.map_eq_some_iff.mp hy
        exact ⟨t, z1, z2.symm⟩
      rw [hl] at hi
      obtain ⟨c, hc⟩ : ∃ c, cars[i]? = some c := ⟨_, List.getElem?_eq_getElem hi⟩
      have hcm := List.mem_of_getElem? hc
      have hcn : c.name ∈ names cars := List.mem_map.mpr ⟨c, hcm, rfl⟩
      have E1 := D1.ext (ExtN.same k1)
      have E2 := D2.ext (ExtN.same k1)
      obtain ⟨_, W2, P2⟩ := id E2
      refine ⟨t, _, rfl, SqT.of (k1 _ _ (h3 i t c ht hc)), rfl, _, _, rfl, _, _, rfl, _, _, rfl, rfl, rfl, ?_⟩
      refine ⟨_, rfl, _, rfl, d2, W2.dx, _, rfl, P2.ins, d2, secs, lessC cars n, c.name, rfl, E2, _, rfl, _, rfl, ?_⟩
      rw [tk1 hc, List.filter_append]
      have hfl : ((cars.take i).filter fun c => decide (c.name ≠ n) && !decide (tksL secs cars c.name = tksL secs (lessC cars n) c.name)).length ≤ 10 := by
        refine Nat.le_trans (List.length_filter_le _ _) ?_
        rw [List.length_take]
        omega
      by_cases hn : c.name = n
      · rw [show (decide (c.name ∈ names (lessC cars n)) != false) = false by rw [decide_eq_false (by rw [hn]; exact less_not)]; rfl]
        refine iteF (iteF ⟨k1, ?_⟩)
        rw [hD1]
        simp [hn]
      · rw [show (decide (c.name ∈ names (lessC cars n)) != false) = true by rw [decide_eq_true (less_mem hcm hn)]; rfl]
        refine iteT ?_
        obtain ⟨_, W1, P1⟩ := id E1
        refine ⟨_, rfl, _, rfl, d1, W1.dx, _, rfl, P1.ins, d1, secs, cars, c.name, rfl, E1, hcn, h12, fun H2 t1 s2 ht1 => ?_⟩
        have E22 := E2.ext (ExtN.same s2)
        obtain ⟨_, W22, P22⟩ := id E22
        refine ⟨_, rfl, _, rfl, d2, W22.dx, _, rfl, P22.ins, d2, secs, lessC cars n, c.name, rfl, E22, less_mem hcm hn, h12, fun H3 t2 s3 ht2 => ?_⟩
        have k3 := s2.trans s3
        refine ⟨_, _, dp_intsT (s3 _ _ ht1), dp_intsT ht2, (shp_intsT _).ok (by decide), (shp_intsT _).ok (by decide), _, rfl, ?_⟩
        have eqv : PyData.eqv (.tuple ((tksL secs cars c.name).map PyData.int)) (.tuple ((tksL secs (lessC cars n) c.name).map PyData.int)) = decide (tksL secs cars c.name = tksL secs (lessC cars n) c.name) := eqv_intsT _ _
        rw [eqv]
        by_cases he : tksL secs cars c.name = tksL secs (lessC cars n) c.name
        · rw [decide_eq_true he]
          refine iteF ⟨k1.trans k3, ?_⟩
          rw [k3 _ _ hD1]
          simp [he]
        · rw [decide_eq_false he]
          refine iteT ⟨_, rfl, _, k3 _ _ hD1, by rw [List.length_map, List.length_map]; exact small1000 (by omega), fun b o e => by rw [upd_ne (ne_of_none e hD)]; exact k3 _ _ (k1 _ _ e), ?_⟩
          rw [upd_same, List.map_append, List.map_append]
          simp [he, hn]
    · rintro H1 ⟨k1, hD1⟩
      rw [hl, List.take_length] at hD1
      exact k H1 D k1 hD hD1
end
end Sl

set_option Elab.async false
set_option linter.all false
set_option maxRecDepth 100000
set_option maxHeartbeats 2000000
namespace Sl
open PySem PySem.Spec L2 OwnR LamX
theorem mk_drive {CR C : Addr} {T : List (Addr × Str)} {H : Hp} {p a dv dx : Addr} {secs : List Sec} {cars : List Car} (rd : RoadAt CR H p secs) (ct : CarsAt H a cars) (SO : SecsOk secs) (CO : CarsOk cars) (hT : Tabs T H) (hdv : H dv = none) (hdx : H dx = none) {Q : VK} {E : XK}
    (k : ∀ H', ExtN H H' → Tabs T H' → DA C H' dv secs cars → Q .non H') : spDInit CR C T [.ref dv, .ref p, .ref a] (upd (upd H dx (.own dv)) dv (.ins C dx [])) Q E := by
  have S2 : Same H (upd (upd H dx (.own dv)) dv (.ins C dx [])) := fun b o e => by rw [upd_ne (ne_of_none e hdv), upd_ne (ne_of_none e hdx)]; exact e
  exact ⟨H, dv, dx, p, a, secs, cars, rfl, upd_same, S2, hdv, rd, ct, SO, CO, hT, fun H' W DW T' => k H' DW.ext T' ⟨_, _, DW⟩⟩
theorem noFld {W : DW} {m : Str} : (¬ m = "_sections") → (¬ m = "_paces") → (¬ m = "_ticks") → (¬ m = "_orders") → (¬ m = "_leaders") → (df5 W.sc W.pd W.lt W.lo W.ll).lookup m = none := fun a b c d e => df5_no _ _ _ _ _ a b c d e
section
variable {P : Program} {w : World} {K : PySem.W.Frag} {mg : Str → Option Value} {base : Heap}
/-- a road and cars, as arguments -/
structure RC (CR : Addr) (T : List (Addr × Str)) (H : Hp) (p a : Addr) (secs : List Sec) (cars : List Car) : Prop where
  rd : RoadAt CR H p secs
  ct : CarsAt H a cars
  so : SecsOk secs
  co : CarsOk cars
  tb : Tabs T H
theorem RC.ext {CR : Addr} {T : List (Addr × Str)} {H H' : Hp} {p a : Addr} {secs : List Sec} {cars : List Car} (h : RC CR T H p a secs cars) (e : ExtN H H') (t : Tabs T H') : RC CR T H' p a secs cars := ⟨h.rd.ext2 e, h.ct.ext e, h.so, h.co, t⟩
theorem RC.same {CR : Addr} {T : List (Addr × Str)} {H H' : Hp} {p a : Addr} {secs : List Sec} {cars : List Car} (h : RC CR T H p a secs cars) (e : Same H H') : RC CR T H' p a secs cars := h.ext (ExtN.same e) (h.tb.ext e)
end
end Sl

set_option Elab.async false
set_option linter.all false
set_option maxRecDepth 100000
set_option maxHeartbeats 2000000
namespace Sl
open PySem PySem.Spec L2 OwnR LamX
section
variable {P : Program} {w : World} {K : PySem.W.Frag} {mg : Str → Option Value} {base : Heap}
abbrev WithoutC (P : Program) (w : World) (K : PySem.W.Frag) (mg : Str → Option Value) (base : Heap) : Prop := ∃ f fd, Fb K mg "_without" sWithout ["cars", "name"] f fd ∧ FnOk P w K mg base CX0 1 f fd ["cars", "name"] spWithout
abbrev ChangedC (P : Program) (w : World) (K : PySem.W.Frag) (mg : Str → Option Value) (base : Heap) (C : Addr) : Prop := ∃ f fd, Fb K mg "_changed" sChanged ["cars", "drive", "less"] f fd ∧ FnOk P w K mg base CX0 5 f fd ["cars", "drive", "less"] (spChanged C)
theorem zip_snoc {α β : Type} {l : List α} {r : List β} {x : α} {y : β} (h : l.length = r.length) : (l ++ [x]).zip (r ++ [y]) = l.zip r ++ [(x, y)] := by
  rw [List.zip_append h]
  rfl
theorem chg_mem {secs : List Sec} {cars : List Car} {n m : Str} (h : m ∈ chgL secs cars n) : m ∈ names cars ∧ m ∈ names (lessC cars n) := by
  obtain ⟨c, hc, rfl⟩ := List.mem_map.mp h
  obtain ⟨h1, h2⟩ := List.mem_filter.mp hc
  rw [Bool.and_eq_true] at h2
  exact ⟨List.mem_map.mpr ⟨c, h1, rfl⟩, less_mem h1 (by simpa using h2.1)⟩
theorem chg_nd {secs : List Sec} {cars : List Car} {n : Str} (CO : CarsOk cars) : (chgL secs cars n).Nodup := CO.nd.sublist (List.Sublist.map _ List.filter_sublist)
theorem chg_len {secs : List Sec} {cars : List Car} {n : Str} (CO : CarsOk cars) : (chgL secs cars n).length ≤ 10 := by
  unfold chgL chgC
  rw [List.length_map]
  exact Nat.le_trans (List.length_filter_le _ _) CO.few
theorem put_new {ns : List Str} {ts : List Addr} {m : Str} {v : V} (h : ts.length = ns.length) (hm : m ∉ ns) : putK ((ns.zip ts).map fun q => ((Sum.inr q.1 : Key), V.ref q.2)) (Sum.inr m : Key) v = ((ns.zip ts).map fun q => ((Sum.inr q.1 : Key), V.ref q.2)) ++ [((Sum.inr m : Key), v)] := by
  refine putK_new _ ?_
  induction ns generalizing ts with
  | nil => rfl
  | cons a l ih =>
    cases ts with
    | nil => rfl
    | cons t r =>
      have hne : ¬ (Sum.inr a : Key) = Sum.inr m := fun z => hm (by rw [Sum.inr.inj z]; exact List.mem_cons_self)
      show valV (((Sum.inr a : Key), V.ref t) :: ((l.zip r).map fun q => ((Sum.inr q.1 : Key), V.ref q.2))) _ = none
      rw [valV_neg hne]
      exact ih (by simpa using h) fun z => hm (List.mem_cons_of_mem _ z)
end
end Sl

set_option Elab.async false
set_option linter.all false
set_option maxRecDepth 100000
set_option maxHeartbeats 1000000
/-! The mathematics of chains: a chain of leaders leads to each car that changes. -/
namespace Sl
open PySem PySem.Spec L2 OwnR LamX
section
variable {N : Type} [DecidableEq N]
/-- a row's tick is the free tick of its leader, or of the car itself, and that one is not behind -/
theorem row_lead (f : N → Int) : ∀ (l : List N) (r : RowT N), r ∈ foll f l → ∃ p q, l = p ++ r.1 :: q ∧ r.2.1 = f (r.2.2.getD r.1) ∧ (r.2.2.getD r.1 = r.1 ∨ r.2.2.getD r.1 ∈ p) ∧ (∀ y, r.2.2 = some y → f r.1 < f y ∧ y ∈ p) := by
  have key : ∀ (n : Nat) (l : List N), l.length = n → ∀ r ∈ foll f l, ∃ p q, l = p ++ r.1 :: q ∧ r.2.1 = f (r.2.2.getD r.1) ∧ (r.2.2.getD r.1 = r.1 ∨ r.2.2.getD r.1 ∈ p) ∧ (∀ y, r.2.2 = some y → f r.1 < f y ∧ y ∈ p) := by
    intro n
    induction n with
    | zero =>
      intro l hl r hr
      have := List.length_eq_zero_iff.mp hl
      subst this
      cases hr
    | succ n ih =>
      intro l hl r hr
      have hne : l ≠ [] := fun z => by rw [z] at hl; cases hl
      obtain ⟨pre, x, rfl⟩ : ∃ r x, l = r ++ [x] := ⟨l.dropLast, l.getLast hne, (List.dropLast_concat_getLast hne).symm⟩
      have hpl : pre.length = n := by simpa using hl
      rw [foll_snoc] at hr
      rcases List.mem_append.mp hr with hr | hr
      · obtain ⟨p, q, e, h1, h2, h3⟩ := ih pre hpl r hr
        exact ⟨p, q ++ [x], by rw [e]; simp, h1, h2, h3⟩
      · rw [List.mem_singleton.mp hr]
        refine ⟨pre, [], by rw [fnext_name], ?_⟩
        unfold fnext
        cases hl2 : (foll f pre).getLast? with
        | none => exact ⟨rfl, .inl rfl, fun y z => (nomatch z)⟩
        | some a =>
          obtain ⟨a, t, lo⟩ := a
          dsimp only
          split
          · rename_i hlt
            obtain ⟨p, q, e, h1, h2, _⟩ := ih pre hpl (a, t, lo) (List.mem_of_getLast? hl2)
            have h1 : t = f (lo.getD a) := h1
            have hm : lo.getD a ∈ pre := by
              rw [e]
              rcases h2 with h2 | h2
              · have h2 : lo.getD a = a := h2
                rw [h2]
                simp
              · exact List.mem_append_left _ h2
            refine ⟨h1, .inr hm, fun y z => ?_⟩
            have z : some (lo.getD a) = some y := z
            rw [← Option.some.inj z, ← h1]
            exact ⟨hlt, hm⟩
          · exact ⟨rfl, .inl rfl, fun y z => (nomatch z)⟩
  exact fun l r hr => key l.length l rfl r hr
theorem look_row {f : N → Int} {l : List N} (nd : l.Nodup) {x : N} (hx : x ∈ l) : ∃ r ∈ foll f l, r.1 = x ∧ tickOf (foll f l) x = r.2.1 ∧ leadOf (foll f l) x = r.2.2 := by
  have hm : x ∈ (foll f l).map (·.1) := by rw [foll_names]; exact hx
  obtain ⟨r, hr, e⟩ := List.mem_map.mp hm
  obtain ⟨i, hi⟩ := List.mem_iff_getElem?.mp hr
  have lk := look_get (acc := foll f l) (by rw [foll_names]; exact nd) hi
  rw [e] at lk
  refine ⟨r, hr, e, ?_, ?_⟩
  · unfold tickOf
    rw [lk]
    rfl
  · unfold leadOf
    rw [lk]
    rfl
/-- where the leader is among them, only they count -/
theorem tick_only (f : N → Int) (G : N → Bool) {l : List N} (nd : l.Nodup) {x : N} (hx : x ∈ l) (gx : G x = true) (hl : ∀ y, leadOf (foll f l) x = some y → G y = true) : tickOf (foll f l) x = tickOf (foll f (l.filter G)) x := by
  obtain ⟨r, hr, rfl, e1, e2⟩ := look_row (f := f) nd hx
  obtain ⟨p, q, e, h1, h2, h3⟩ := row_lead f l r hr
  rw [e2] at hl
  have gy : G (r.2.2.getD r.1) = true := by
    cases q : r.2.2 with
    | none => exact gx
    | some y => exact hl y q
  have hf : (p ++ r.1 :: q).filter G = p.filter G ++ r.1 :: q.filter G := by
    rw [List.filter_append, List.filter_cons, if_pos gx]
  have nd2 : ((p ++ r.1 :: q).filter G).Nodup := by rw [← e]; exact nd.sublist List.filter_sublist
  rw [e] at nd e1 ⊢
  rw [hf] at nd2 ⊢
  obtain ⟨a1, y1, b1, c1⟩ := tick_split f nd
  obtain ⟨a2, y2, b2, c2⟩ := tick_split f nd2
  refine Int.le_antisymm ?_ ?_
  · rw [e1, h1]
    refine a2 _ ?_
    rcases h2 with h2 | h2
    · exact .inr h2
    · exact .inl (List.mem_filter.mpr ⟨h2, gy⟩)
  · rw [← c2]
    refine a1 _ ?_
    rcases b2 with b2 | b2
    · exact .inl (List.mem_filter.mp b2).1
    · exact .inr b2
end
/-- u leads v somewhere, in the drive with m or in that without it -/
def leadB (secs : List Sec) (cars : List Car) (m u v : Str) : Bool := (List.range secs.length).any fun k => decide (ldrC secs cars k v = some u) || decide (ldrC secs (lessC cars m) k v = some u)
theorem leadB_of {secs : List Sec} {cars : List Car} {m u v : Str} {k : Nat} (hk : k < secs.length) (h : ldrC secs cars k v = some u ∨ ldrC secs (lessC cars m) k v = some u) : leadB secs cars m u v = true := by
  unfold leadB
  rw [List.any_eq_true]
  refine ⟨k, List.mem_range.mpr hk, ?_⟩
  rcases h with h | h <;> simp [h]
theorem chg_of {secs : List Sec} {cars : List Car} {m v : Str} (h : v ∈ chgL secs cars m) : v ≠ m ∧ tksL secs cars v ≠ tksL secs (lessC cars m) v := by
  obtain ⟨c, hc, rfl⟩ := List.mem_map.mp h
  obtain ⟨_, h2⟩ := List.mem_filter.mp hc
  rw [Bool.and_eq_true] at h2
  exact ⟨by simpa using h2.1, by simpa using h2.2⟩
theorem chg_not {secs : List Sec} {cars : List Car} {m v : Str} (hv : v ∈ names cars) (hm : v ≠ m) (h : v ∉ chgL secs cars m) : tksL secs cars v = tksL secs (lessC cars m) v := by
  obtain ⟨c, hc, rfl⟩ := List.mem_map.mp hv
  by_cases e : tksL secs cars c.name = tksL secs (lessC cars m) c.name
  · exact e
  · exact absurd (List.mem_map.mpr ⟨c, List.mem_filter.mpr ⟨hc, by simp [hm, e]⟩, rfl⟩) h
theorem tks_get {secs : List Sec} {cars cars' : List Car} {v : Str} (h : tksL secs cars v = tksL secs cars' v) {k : Nat} (hk : k ≤ secs.length) : (plcC secs cars k).tk v = (plcC secs cars' k).tk v := by
  have := congrArg (fun l => l[k]?) h
  unfold tksL at this
  simp only [List.getElem?_map] at this
  rw [List.getElem?_range (by omega)] at this
  simpa using this
theorem ldr_at {secs : List Sec} {cars : List Car} {k : Nat} {s : Sec} (hs : secs[k]? = some s) (v : Str) : ldrC secs cars k v = leadP (paceOf cars) (plcC secs cars k) s v := by
  show ldr (paceOf cars) (pl0 cars) secs k v = _
  unfold ldr
  rw [hs]
theorem chain_reach {secs : List Sec} {cars : List Car} (CO : CarsOk cars) (m : Str) : Reach (chgL secs cars m) (leadB secs cars m) m := by
  intro S hmS hcl
  have nd := CO.nd
  have nd' := (less_ok CO m).nd
  -- the others are driven alike
  let G : Str → Bool := fun x => !decide (x ∈ S)
  have hG : ∀ x, G x = true ↔ x ∉ S := fun x => by simp [G]
  have mem' : ∀ x, x ∈ names cars → G x = true → x ∈ names (lessC cars m) := fun x hx gx => by
    rw [less_names]
    exact List.mem_filter.mpr ⟨hx, decide_eq_true fun z => (hG x).mp gx (z ▸ hmS)⟩
  have key : ∀ k, k ≤ secs.length → (plcC secs cars k).ord.filter G = (plcC secs (lessC cars m) k).ord.filter G ∧ ∀ x ∈ names cars, G x = true → (plcC secs cars k).tk x = (plcC secs (lessC cars m) k).tk x := by
    intro k
    induction k with
    | zero =>
      intro _
      refine ⟨?_, fun x hx gx => ?_⟩
      · show (pl0 cars).ord.filter G = (pl0 (lessC cars m)).ord.filter G
        rw [less_ord nd, List.filter_filter]
        refine List.filter_congr fun x _ => ?_
        cases h : G x with
        | false => rfl
        | true =>
          have : x ≠ m := fun z => (hG x).mp h (z ▸ hmS)
          simp [this]
      · exact ((less_pace nd (mem' x hx gx)).2).symm
    | succ k ih =>
      intro hk
      obtain ⟨io, it⟩ := ih (by omega)
      obtain ⟨s, hs⟩ : ∃ s, secs[k]? = some s := ⟨_, List.getElem?_eq_getElem (by omega)⟩
      have e1 : plcC secs cars (k + 1) = stepP (paceOf cars) (plcC secs cars k) s := plc_succ (paceOf cars) (pl0 cars) secs hs
      have e2 : plcC secs (lessC cars m) (k + 1) = stepP (paceOf (lessC cars m)) (plcC secs (lessC cars m) k) s := plc_succ (paceOf (lessC cars m)) (pl0 (lessC cars m)) secs hs
      have pm := plcC_perm secs cars k
      have pm' := plcC_perm secs (lessC cars m) k
      have hf : ∀ x ∈ names cars, G x = true → freeP (paceOf cars) (plcC secs cars k) s.2 x = freeP (paceOf (lessC cars m)) (plcC secs (lessC cars m) k) s.2 x := fun x hx gx => by
        unfold freeP
        rw [it x hx gx, (less_pace nd (mem' x hx gx)).1]
      have ho : (plcC secs cars (k + 1)).ord.filter G = (plcC secs (lessC cars m) (k + 1)).ord.filter G := by
        rw [e1, e2]
        unfold stepP
        split
        · show (sortBy _ _).filter G = (sortBy _ _).filter G
          rw [sortBy_filter, sortBy_filter, ← io]
          exact sortBy_congr _ _ _ fun x hx => hf x (pm.mem_iff.mp (List.mem_filter.mp hx).1) (List.mem_filter.mp hx).2
        · exact io
      refine ⟨ho, fun x hx gx => ?_⟩
      have xm : x ≠ m := fun z => (hG x).mp gx (z ▸ hmS)
      by_cases hc : x ∈ chgL secs cars m
      · have l1 : ∀ y, ldrC secs cars k x = some y ∨ ldrC secs (lessC cars m) k x = some y → G y = true := fun y h => (hG y).mpr fun z => (hG x).mp gx (hcl y z x hc (leadB_of (by omega) h))
        have i1 := fun y h => l1 y (.inl h)
        have i2 := fun y h => l1 y (.inr h)
        rw [e1, e2]
        rw [ldr_at hs] at i1 i2
        unfold leadP at i1 i2
        unfold stepP
        split
        · exact hf x hx gx
        · rename_i hw
          rw [if_neg hw] at i1 i2
          show tickOf (foll (freeP (paceOf cars) (plcC secs cars k) s.2) (plcC secs cars k).ord) x = tickOf (foll (freeP (paceOf (lessC cars m)) (plcC secs (lessC cars m) k) s.2) (plcC secs (lessC cars m) k).ord) x
          rw [tick_only _ G (pm.nodup_iff.mpr nd) (pm.mem_iff.mpr hx) gx i1, tick_only _ G (pm'.nodup_iff.mpr nd') (pm'.mem_iff.mpr (mem' x hx gx)) gx i2, ← io]
          congr 1
          exact foll_congr (fun y hy => hf y (pm.mem_iff.mp (List.mem_filter.mp hy).1) (List.mem_filter.mp hy).2) []
      · exact tks_get (chg_not hx xm hc) hk
  intro v hv
  by_cases hvS : v ∈ S
  · exact hvS
  · exfalso
    refine (chg_of hv).2 ?_
    unfold tksL
    exact List.map_congr_left fun k hk => (key k (by have := List.mem_range.mp hk; omega)).2 v (chg_mem hv).1 ((hG v).mpr hvS)
/-! ### leaders are slower -/
theorem inv_all {pace : Str → Int} {cars : List Car} (nd : (names cars).Nodup) (secs : List Sec) (k : Nat) : Inv1 (paceOf cars) (fun _ => true) (plcC secs cars k) := by
  have I0 : Inv1 (paceOf cars) (fun _ => true) (pl0 cars) := ⟨(pl0_perm cars).nodup_iff.mpr nd, List.Pairwise.and (sortBy_up _ _) (List.pairwise_iff_getElem.mpr fun i j hi hj _ _ _ => rfl)⟩
  have key : ∀ (l : List Sec) (P : Pl Str), Inv1 (paceOf cars) (fun _ => true) P → Inv1 (paceOf cars) (fun _ => true) (l.foldl (stepP (paceOf cars)) P) := by
    intro l
    induction l with
    | nil => exact fun _ h => h
    | cons s r ih => exact fun P h => ih _ (h.step s)
  exact key _ _ I0
theorem lead_slow {secs : List Sec} {cars : List Car} (nd : (names cars).Nodup) {k : Nat} {u v : Str} (hv : v ∈ names cars) (h : ldrC secs cars k v = some u) : paceOf cars v < paceOf cars u ∧ u ∈ names cars := by
  have hu := ldrC_in h
  refine ⟨?_, hu⟩
  cases hs : secs[k]? with
  | none =>
    have h : ldr (paceOf cars) (pl0 cars) secs k v = some u := h
    unfold ldr at h
    rw [hs] at h
    cases h
  | some s =>
    rw [ldr_at hs] at h
    unfold leadP at h
    split at h
    · cases h
    · have I := inv_all (pace := paceOf cars) nd secs k
      have pm := plcC_perm secs cars k
      obtain ⟨r, hr, e0, e1, e2⟩ := look_row (f := freeP (paceOf cars) (plcC secs cars k) s.2) I.nd (pm.mem_iff.mpr hv)
      obtain ⟨p, q, e, _, _, h3⟩ := row_lead _ _ r hr
      rw [h] at e2
      obtain ⟨hlt, hup⟩ := h3 u e2.symm
      rw [e0] at hlt e
      have hpw := I.pw
      rw [e, List.pairwise_append] at hpw
      have hle := (hpw.2.2 u hup v List.mem_cons_self).1
      unfold freeP at hlt
      rcases Int.lt_or_le (paceOf cars v) (paceOf cars u) with z | z
      · exact z
      · have := Int.mul_le_mul_of_nonneg_right z (Int.natCast_nonneg s.2)
        omega
theorem leadB_slow {secs : List Sec} {cars : List Car} (CO : CarsOk cars) {m u v : Str} (hv : v ∈ chgL secs cars m) (h : leadB secs cars m u v = true) : paceOf cars v < paceOf cars u ∧ u ∈ names cars := by
  unfold leadB at h
  rw [List.any_eq_true] at h
  obtain ⟨k, _, hk⟩ := h
  rw [Bool.or_eq_true] at hk
  obtain ⟨h1, h2⟩ := chg_mem hv
  rcases hk with hk | hk
  · exact lead_slow CO.nd h1 (of_decide_eq_true hk)
  · obtain ⟨a, b⟩ := lead_slow (less_ok CO m).nd h2 (of_decide_eq_true hk)
    rw [(less_pace CO.nd h2).1, (less_pace CO.nd b).1] at a
    refine ⟨a, ?_⟩
    rw [less_names] at b
    exact (List.mem_filter.mp b).1
end Sl

set_option Elab.async false
set_option linter.all false
set_option maxRecDepth 100000
set_option maxHeartbeats 2000000
namespace L2
open PySem PySem.Spec PyProof.Rows
section
variable {X : Cx} {pos : Pos}
/-! ### a range as a value -/
theorem cr_range1 : CallR X (.type "range") (fun vs H Q => ∃ j, vs = [V.int j] ∧ ∀ p, H p = none → Q (.ref p) (upd H p (.rng 0 j))) := by
  intro pins s σ H vs us Q I r h
  obtain ⟨j, rfl, q⟩ := h
  obtain ⟨u, rfl, ru⟩ := r.one
  obtain ⟨t, rfl⟩ := ru
  refine call_range_1 ⟨.ref s.heap.objs.size, upd H s.heap.objs.size (.rng 0 j), I.laid (t' := s.toks + 1 + 1) (fun b o e => Heap.get?_push_of_some _ e) (Nat.le_refl _) ?_, rfl, q _ (I.hok.fresh (Nat.le_refl _))⟩
  exact ⟨s.toks, t, s.toks + 1, Heap.get?_push_size _ rfl⟩
def iRngO (te : TE) : TI := fun σ H R => te σ H fun x H1 => ∃ a lo hi, x = .ref a ∧ H1 a = some (.rng lo hi) ∧ (-(2 ^ 62) ≤ lo ∧ lo < 2 ^ 62 ∧ -(2 ^ 62) ≤ hi ∧ hi < 2 ^ 62) ∧ R (Itr lo (hi - lo).toNat) H1
theorem pi_rngO {tg e : Expr} {te : TE} (he : PE X e te) : PI X tg e (iRngO te) := by
  refine ⟨fun pins s σ H R I h => ?_⟩
  refine thn (he.run pins s σ H _ I h) fun v s1 ⟨x, H1, I1, r1, a, lo, hi, ex, ha, ⟨h1, h2, h3, h4⟩, q⟩ => ?_
  subst ex
  cases r1
  obtain ⟨t, u, w, hr⟩ := I1.hok a _ ha
  refine wpAny_pyIter_range hr (small_one h1 h2 h3 h4) ?_
  refine pi_one (tk := s1.toks) I1 _ (turn_range _ lo (hi - lo).toNat) ?_ q
  have e1 : lo + ((0 : Nat) : Int) * 1 = lo := by simp
  have e2 : (((hi - lo).toNat : Nat) : Int) - ((0 : Nat) : Int) = Builtin.Range.rangeSize lo hi 1 := by rw [rangeSize_one]; split <;> omega
  show IsRangeIter _ _ (lo + ((0 : Nat) : Int) * 1) ((((hi - lo).toNat : Nat) : Int) - ((0 : Nat) : Int)) 1
  rw [e1, e2]
  exact Heap.get?_push_size _ rfl
theorem ip_ext {X : Cx} : PIp X .Add rExt2 := fun pins s σ H x y v u Q I rx ry h => iop_ext pins s σ H x y v u Q I rx ry h
/-! ### d.update(e), both dicts -/
def rUpd : V → List V → Hp → VK → Prop := fun x vs H Q => ∃ d o kvs more, x = .ref d ∧ vs = [.ref o] ∧ d ≠ o ∧ H d = some (.dK kvs) ∧ H o = some (.dK more) ∧ kvs.length + more.length ≤ sizeLine ∧ Q .non (upd H d (.dK (mergeK kvs more)))
theorem mt_update : MtM X "dict.update" rUpd := by
  intro pins s σ H x xs v us Q I rx rs h
  obtain ⟨d, o, kvs, more, rfl, rfl, hdo, hd, ho, hz, q⟩ := h
  cases (show v = Value.ref d from rx)
  obtain ⟨u, rfl, ru⟩ := rs.one
  cases (show u = Value.ref o from ru)
  obtain ⟨z1, m1, vs, rel, dd⟩ := dk_of I.hok hd
  obtain ⟨z2, m2, ws, rel2, de⟩ := dk_of I.hok ho
  refine call_meetsIn PySem.F.slot_dict_update dd.typeIs PySem.F.entry_dict_update (PySem.F.args_dict_update_2 _ _) (meets_dict_update (mixKind X.prog X.w) d o hdo m2) ⟨vs, ws, dd, de, by rw [← rel.length, ← rel2.length]; exact hz, fun h' dd' de' hs => ?_⟩
  have he : ∃ q, h'.get? d = some q := let ⟨q, _, _, hq, _⟩ := dd'; ⟨q, hq⟩
  exact ⟨.non, _, d_write (t' := s.toks) I (by rw [hd]; exact True.intro) hs he (dk_new (Nat.le_trans (length_mergeK _ _) (by rw [Nat.add_comm] at hz; omega)) m1 (rel2.merge rel) dd'), rfl, q⟩
end
end L2

set_option Elab.async false
set_option linter.all false
set_option maxRecDepth 100000
set_option maxHeartbeats 4000000
namespace Sl
open PySem PySem.Spec L2 OwnR LamX
/-- a dict of chains, by their ends -/
def chK (xs : List Ch) (ts : List Addr) : List (Key × V) := ((keysC xs).zip ts).map fun q => ((Sum.inr q.1 : Key), V.ref q.2)
def ChD (H : Hp) (d : Addr) (xs : List Ch) : Prop := ∃ ts : List Addr, H d = some (.dK (chK xs ts)) ∧ ts.length = xs.length ∧ ∀ (i : Nat) (t : Addr) (c : Ch), ts[i]? = some t → xs[i]? = some c → H t = some (.lst (c.2.map V.str))
theorem ChD.same {H H' : Hp} {d : Addr} {xs : List Ch} (h : ChD H d xs) (e : Same H H') : ChD H' d xs := by
  obtain ⟨ts, h1, h2, h3⟩ := h
  exact ⟨ts, e _ _ h1, h2, fun i t c e1 e2 => e _ _ (h3 i t c e1 e2)⟩
theorem keysC_len (xs : List Ch) : (keysC xs).length = xs.length := List.length_map _
theorem chK_len {xs : List Ch} {ts : List Addr} (h : ts.length = xs.length) : (chK xs ts).length = xs.length := by
  unfold chK
  rw [List.length_map, List.length_zip, keysC_len, h, Nat.min_self]
theorem chK_keys {xs : List Ch} {ts : List Addr} (h : ts.length = xs.length) : (chK xs ts).map (fun kv => kV kv.1) = (keysC xs).map V.str := by
  unfold chK
  rw [List.map_map]
  have : ∀ (ks : List Str) (ts : List Addr), ts.length = ks.length → (ks.zip ts).map ((fun kv : Key × V => kV kv.1) ∘ fun q => ((Sum.inr q.1 : Key), V.ref q.2)) = ks.map V.str := by
    intro ks
    induction ks with
    | nil => intro ts _; rfl
    | cons k r ih =>
      intro ts h
      cases ts with
      | nil => simp at h
      | cons t q =>
        rw [List.zip_cons_cons, List.map_cons, ih q (by simpa using h)]
        rfl
  exact this _ _ (by rw [keysC_len, h])
theorem chK_some {xs : List Ch} {ts : List Addr} (h : ts.length = xs.length) (n : Str) : (valV (chK xs ts) (Sum.inr n : Key)).isSome = decide (n ∈ keysC xs) := by
  unfold chK
  have : ∀ (ks : List Str) (ts : List Addr), ts.length = ks.length → (valV ((ks.zip ts).map fun q => ((Sum.inr q.1 : Key), V.ref q.2)) (Sum.inr n : Key)).isSome = decide (n ∈ ks) := by
    intro ks
    induction ks with
    | nil => intro ts _; rfl
    | cons k r ih =>
      intro ts h
      cases ts with
      | nil => simp at h
      | cons t q =>
        rw [List.zip_cons_cons, List.map_cons]
        by_cases e : k = n
        · subst e
          rw [valV_pos rfl]
          simp
        · rw [valV_neg fun z => e (Sum.inr.inj z), ih q (by simpa using h)]
          have : ¬ n = k := fun z => e z.symm
          simp [this]
  exact this _ _ (by rw [keysC_len, h])
theorem chK_get {xs : List Ch} (nd : (keysC xs).Nodup) {ts : List Addr} {i : Nat} {t : Addr} {c : Ch} (e1 : ts[i]? = some t) (e2 : xs[i]? = some c) : valV (chK xs ts) (Sum.inr c.1 : Key) = some (.ref t) := by
  unfold chK
  have : ∀ (ks : List Str) (ts : List Addr) (i : Nat) (k : Str) (t : Addr), ks.Nodup → ks[i]? = some k → ts[i]? = some t → valV ((ks.zip ts).map fun q => ((Sum.inr q.1 : Key), V.ref q.2)) (Sum.inr k : Key) = some (.ref t) := by
    intro ks
    induction ks with
    | nil => intro ts i k t _ h; simp at h
    | cons a r ih =>
      intro ts i k t nd h1 h2
      cases ts with
      | nil => simp at h2
      | cons b q =>
        rw [List.zip_cons_cons, List.map_cons]
        rw [List.nodup_cons] at nd
        cases i with
        | zero =>
          cases Option.some.inj h1
          cases Option.some.inj h2
          exact valV_pos rfl
        | succ j =>
          have h1 : r[j]? = some k := by simpa using h1
          have h2 : q[j]? = some t := by simpa using h2
          have ne : ¬ a = k := fun z => nd.1 (z ▸ List.mem_of_getElem? h1)
          rw [valV_neg fun z => ne (Sum.inr.inj z)]
          exact ih q j k t nd.2 h1 h2
  exact this _ _ i _ t nd (by unfold keysC; rw [List.getElem?_map, e2]; rfl) e1
theorem ChD.at_ {H : Hp} {d : Addr} {xs : List Ch} (h : ChD H d xs) (nd : (keysC xs).Nodup) {c : Ch} (hc : c ∈ xs) : ∃ kv t, H d = some (.dK kv) ∧ valV kv (Sum.inr c.1 : Key) = some (.ref t) ∧ H t = some (.lst (c.2.map V.str)) := by
  obtain ⟨ts, h1, h2, h3⟩ := h
  obtain ⟨i, hi⟩ := List.mem_iff_getElem?.mp hc
  obtain ⟨t, ht⟩ : ∃ t, ts[i]? = some t := ⟨_, List.getElem?_eq_getElem (by rw [h2]; exact (List.getElem?_eq_some_iff.mp hi).1)⟩
  exact ⟨_, t, h1, chK_get nd ht hi, h3 i t c ht hi⟩
theorem chK_snoc {xs : List Ch} {ts : List Addr} (h : ts.length = xs.length) (c : Ch) (t : Addr) : chK (xs ++ [c]) (ts ++ [t]) = chK xs ts ++ [((Sum.inr c.1 : Key), V.ref t)] := by
  unfold chK keysC
  rw [List.map_append, show List.map (fun x : Ch => x.1) [c] = [c.1] from rfl, zip_snoc (by rw [List.length_map, h]), List.map_append]
  rfl
/-- one more chain -/
theorem ChD.put {H : Hp} {d t : Addr} {xs : List Ch} {ts : List Addr} (h1 : H d = some (.dK (chK xs ts))) (h2 : ts.length = xs.length) (h3 : ∀ (i : Nat) (t : Addr) (c : Ch), ts[i]? = some t → xs[i]? = some c → H t = some (.lst (c.2.map V.str))) {c : Ch} (hn : c.1 ∉ keysC xs) (ht : H t = some (.lst (c.2.map V.str))) :
    putK (chK xs ts) (Sum.inr c.1 : Key) (.ref t) = chK (xs ++ [c]) (ts ++ [t]) ∧ ChD (upd H d (.dK (chK (xs ++ [c]) (ts ++ [t])))) d (xs ++ [c]) := by
  refine ⟨?_, ts ++ [t], upd_same, by rw [List.length_append, List.length_append, h2]; rfl, fun i b e e1 e2 => ?_⟩
  · rw [chK_snoc h2]
    unfold chK
    exact put_new (by rw [keysC_len, h2]) hn
  · have key : H b = some (.lst (e.2.map V.str)) := by
      rcases snoc_get e1 with e1 | ⟨hq, rfl⟩
      · have := (List.getElem?_eq_some_iff.mp e1).1
        rw [List.getElem?_append_left (by omega)] at e2
        exact h3 i b e e1 e2
      · rw [List.getElem?_append_right (by omega), hq, h2, Nat.sub_self] at e2
        have : c = e := by simpa using e2
        rw [← this]
        exact ht
    rw [upd_ne (ne_of key h1 (by intro z; cases z))]
    exact key
/-- two dicts of chains, put together -/
theorem merge_new : ∀ (more kvs : List (Key × V)), (more.map (·.1)).Nodup → (∀ k ∈ more.map (·.1), valV kvs k = none) → mergeK kvs more = kvs ++ more
  | [], kvs, _, _ => by rw [List.append_nil]; rfl
  | p :: r, kvs, nd, h => by
    rw [List.map_cons, List.nodup_cons] at nd
    show mergeK (putK kvs p.1 p.2) r = _
    rw [putK_new _ (h p.1 List.mem_cons_self)]
    rw [merge_new r (kvs ++ [(p.1, p.2)]) nd.2 fun k hk => ?_]
    · simp
    · have h1 := h k (List.mem_cons_of_mem _ hk)
      have ne : ¬ k = p.1 := fun z => nd.1 (z ▸ hk)
      have e : kvs ++ [(p.1, p.2)] = putK kvs p.1 p.2 := (putK_new _ (h p.1 List.mem_cons_self)).symm
      rw [e, valV_put, if_neg ne]
      exact h1
theorem chK_app {xs ys : List Ch} {ts us : List Addr} (h : ts.length = xs.length) : chK (xs ++ ys) (ts ++ us) = chK xs ts ++ chK ys us := by
  unfold chK keysC
  rw [List.map_append, List.zip_append (by rw [List.length_map, h]), List.map_append]
theorem chK_fst {xs : List Ch} {ts : List Addr} (h : ts.length = xs.length) : (chK xs ts).map (·.1) = (keysC xs).map fun k => (Sum.inr k : Key) := by
  unfold chK
  rw [List.map_map]
  have : ∀ (ks : List Str) (ts : List Addr), ts.length = ks.length → (ks.zip ts).map ((fun kv : Key × V => kv.1) ∘ fun q => ((Sum.inr q.1 : Key), V.ref q.2)) = ks.map fun k => (Sum.inr k : Key) := by
    intro ks
    induction ks with
    | nil => intro ts _; rfl
    | cons k r ih =>
      intro ts h
      cases ts with
      | nil => simp at h
      | cons t q =>
        rw [List.zip_cons_cons, List.map_cons, ih q (by simpa using h)]
        rfl
  exact this _ _ (by rw [keysC_len, h])
theorem ChD.merge {H : Hp} {d l : Addr} {xs ys : List Ch} (h1 : ChD H d xs) (h2 : ChD H l ys) (nd : (keysC ys).Nodup) (dj : ∀ k ∈ keysC ys, k ∉ keysC xs) : ∃ kv more, H d = some (.dK kv) ∧ H l = some (.dK more) ∧ kv.length = xs.length ∧ more.length = ys.length ∧ more.map (fun q => kV q.1) = (keysC ys).map V.str ∧ ChD (upd H d (.dK (mergeK kv more))) d (xs ++ ys) := by
  obtain ⟨ts, a1, a2, a3⟩ := h1
  obtain ⟨us, b1, b2, b3⟩ := h2
  refine ⟨_, _, a1, b1, chK_len a2, chK_len b2, chK_keys b2, ts ++ us, ?_, by rw [List.length_append, List.length_append, a2, b2], fun i t c e1 e2 => ?_⟩
  · rw [upd_same, chK_app a2, merge_new]
    · rw [chK_fst b2]
      exact List.pairwise_map.mpr (nd.imp fun hne z => hne (Sum.inr.inj z))
    · intro k hk
      rw [chK_fst b2] at hk
      obtain ⟨x, hx, rfl⟩ := List.mem_map.mp hk
      have := chK_some a2 x
      rw [decide_eq_false (dj x hx)] at this
      exact Option.isSome_eq_false_iff.mp this |> Option.isNone_iff_eq_none.mp
  · have key : H t = some (.lst (c.2.map V.str)) := by
      by_cases hi : i < ts.length
      · rw [List.getElem?_append_left hi] at e1
        rw [List.getElem?_append_left (by omega)] at e2
        exact a3 i t c e1 e2
      · rw [List.getElem?_append_right (by omega)] at e1
        rw [List.getElem?_append_right (by omega), ← a2] at e2
        exact b3 _ t c e1 e2
    rw [upd_ne (ne_of key a1 (by intro z; cases z))]
    exact key
theorem dd_snoc (s : List Str) (xs : List Ch) (c : Ch) : dd s (xs ++ [c]) = dd s xs ++ if c.1 ∈ s ∨ c.1 ∈ keysC (dd s xs) then [] else [c] := by
  rw [dd_app]
  congr 1
  show (if c.1 ∈ s ++ keysC (dd s xs) then dd _ [] else c :: dd _ []) = _
  by_cases h : c.1 ∈ s ∨ c.1 ∈ keysC (dd s xs)
  · rw [if_pos h, if_pos (List.mem_append.mpr h)]
    rfl
  · rw [if_neg h, if_neg fun z => h (List.mem_append.mp z)]
    rfl
theorem dd_len (s : List Str) (xs : List Ch) : (dd s xs).length ≤ xs.length := by
  induction xs generalizing s with
  | nil => exact Nat.le_refl _
  | cons c r ih =>
    show (if c.1 ∈ s then dd s r else c :: dd (s ++ [c.1]) r).length ≤ _
    rw [List.length_cons]
    split
    · exact Nat.le_succ_of_le (ih s)
    · rw [List.length_cons]
      exact Nat.succ_le_succ (ih _)
end Sl

set_option Elab.async false
set_option linter.all false
set_option maxRecDepth 100000
set_option maxHeartbeats 4000000
namespace Sl
open PySem PySem.Spec L2 OwnR LamX
/-- a dict from each car to the list of its leaders -/
def LeadD (H : Hp) (d : Addr) (chg : List Str) (lead : Str → Str → Bool) (kv : List (Key × V)) : Prop := kv.map (fun q => kV q.1) = chg.map V.str ∧ ∀ u ∈ chg, ∃ l xs, valV kv (Sum.inr u : Key) = some (.ref l) ∧ H l = some (.lst xs) ∧ xs.all flatV = true ∧ ∀ z : Str, inV (V.str z) xs = lead z u
theorem LeadD.keep {H H' : Hp} {d : Addr} {chg : List Str} {lead : Str → Str → Bool} {kv : List (Key × V)} (h : LeadD H d chg lead kv) (e : ∀ b xs, H b = some (.lst xs) → H' b = some (.lst xs)) : LeadD H' d chg lead kv :=
  ⟨h.1, fun u hu => let ⟨l, xs, a, b, c, g⟩ := h.2 u hu; ⟨l, xs, a, e _ _ b, c, g⟩⟩
theorem same_unfreeze {H H' : Hp} {d : Addr} {o u : HO} (hd : H d = some u) (s : Same (upd H d o) H') : Same H (upd H' d u) := fun b x e => by
  by_cases h : b = d
  · rw [h] at e ⊢
    rw [upd_same, ← hd, e]
  · rw [upd_ne h]
    exact s b x (by rw [upd_ne h]; exact e)
section
variable {P : Program} {w : World} {K : PySem.W.Frag} {mg : Str → Option Value} {base : Heap}
def spShort : Sp := fun vs H Q _ => ∃ (d : Addr) (chg : List Str) (lead : Str → Str → Bool) (m v : Str) (kv : List (Key × V)), vs = [.ref d, .str m, .str v] ∧ H d = some (.dK kv) ∧ LeadD H d chg lead kv ∧ m ∉ chg ∧ v ∈ chg ∧ chg.Nodup ∧ chg.length ≤ 10 ∧ Reach chg lead m ∧
  ∀ H' l k, Same H H' → v ∈ keysC (bfs chg lead m k).1 → (∃ c ∈ (bfs chg lead m k).1, c.1 = v ∧ H' l = some (.lst (c.2.map V.str))) → Q (.ref l) H'
def nShort : List Str := ["leaders", "first", "last", "chains", "ends", "longer", "end", "car"]
theorem scShort : FnScope nShort ["leaders", "first", "last"] (defScope sShortestChain) := ⟨rfl, rfl, rfl, by decide +kernel, rfl, by decide +kernel, by decide +kernel⟩
/-- the loop's state: k levels are done -/
structure ShI (H : Hp) (A E : Addr) (chg : List Str) (lead : Str → Str → Bool) (m : Str) (k : Nat) (H1 : Hp) : Prop where
  sm : Same H H1
  nA : H A = none
  ch : ChD H1 A (bfs chg lead m k).1
  en : H1 E = some (.lst ((keysC (bfs chg lead m k).2).map V.str))
theorem bfs_in {chg : List Str} {lead : Str → Str → Bool} {m : Str} : ∀ k, ∀ c ∈ (bfs chg lead m k).2, c ∈ (bfs chg lead m k).1
  | 0 => fun c h => h
  | k + 1 => fun c h => List.mem_append_right _ h
theorem nd_len : ∀ (l k : List Str), l.Nodup → (∀ x ∈ l, x ∈ k) → l.length ≤ k.length := by
  intro l
  induction l with
  | nil => intro _ _ _; exact Nat.zero_le _
  | cons a r ih =>
    intro k nd h
    rw [List.nodup_cons] at nd
    have ha := h a List.mem_cons_self
    have := ih (k.erase a) nd.2 fun x hx => (List.mem_erase_of_ne fun z => nd.1 (by rw [← z]; exact hx)).mpr (h x (List.mem_cons_of_mem _ hx))
    rw [List.length_erase_of_mem ha] at this
    have hp : 1 ≤ k.length := List.length_pos_of_mem ha
    rw [List.length_cons]
    omega
theorem dd_few {chg : List Str} (s : List Str) (xs : List Ch) (h : ∀ c ∈ xs, c.1 ∈ chg) : (dd s xs).length ≤ chg.length := by
  have := nd_len _ chg (dd_nd s xs) fun x hx => by
    obtain ⟨c, hc, rfl⟩ := List.mem_map.mp hx
    exact h c (dd_sub s xs c hc).1
  rw [keysC_len] at this
  exact this
theorem bfs_long (chg : List Str) (lead : Str → Str → Bool) (m : Str) : ∀ k, ∀ c ∈ (bfs chg lead m k).2, c.2.length = k + 1
  | 0 => fun c hc => by
    rw [List.mem_singleton.mp hc]
    rfl
  | k + 1 => fun c hc => by
    obtain ⟨d, hd1, hd2⟩ := List.mem_flatMap.mp (dd_sub _ _ c hc).1
    obtain ⟨v, _, rfl⟩ := List.mem_map.mp hd2
    rw [List.length_append, bfs_long chg lead m k d hd1]
    rfl
theorem bfs_sizes {chg : List Str} {lead : Str → Str → Bool} {m : Str} (hm : m ∉ chg) (nd : chg.Nodup) (k : Nat) : (bfs chg lead m k).1.length ≤ chg.length + 1 := by
  have h1 := bfs_nd chg lead m k
  have h2 : ∀ x ∈ keysC (bfs chg lead m k).1, x ∈ m :: chg := fun x hx => by
    obtain ⟨c, hc, rfl⟩ := List.mem_map.mp hx
    exact (bfs_ind chg lead m (R := fun c => c.1 ∈ m :: chg) List.mem_cons_self (fun c v _ hv _ => List.mem_cons_of_mem _ hv) k).1 c hc
  have h3 := (List.nodup_cons.mpr ⟨hm, nd⟩)
  have key : ∀ (l k : List Str), l.Nodup → (∀ x ∈ l, x ∈ k) → l.length ≤ k.length := by
    intro l
    induction l with
    | nil => intro _ _ _; exact Nat.zero_le _
    | cons a r ih =>
      intro k nd h
      rw [List.nodup_cons] at nd
      have ha := h a List.mem_cons_self
      have := ih (k.erase a) nd.2 fun x hx => (List.mem_erase_of_ne fun z => nd.1 (by rw [← z]; exact hx)).mpr (h x (List.mem_cons_of_mem _ hx))
      rw [List.length_erase_of_mem ha] at this
      have hp : 1 ≤ k.length := List.length_pos_of_mem ha
      rw [List.length_cons]
      omega
  have := key _ _ h1 h2
  rw [keysC_len, List.length_cons] at this
  exact this
theorem ok_short {f : Addr} {fd : FuncData} (F : Fun K "_shortest_chain" "_shortest_chain" sShortestChain f fd) (M : Mg mg) : FnOk P w K mg base CX0 1 f fd ["leaders", "first", "last"] spShort := by
  refine F.ok scShort (fun vs H Q E h => ?_) (fun cdv A outer s H vs Q E hr h => ?_)
  · obtain ⟨d, chg, lead, m, v, kv, rfl, _⟩ := h
    rfl
  · obtain ⟨d, chg, lead, m, v, kv, rfl, hd, LD, hm, hv, ndc, c10, hR, k⟩ := h
    have nd := scShort.nd
    have hu := hu_of hr
    refine ⟨_, (pss_cons (ps_set (i := 3) nd rfl (.inl rfl) (pe_disp (pps_cons (pv 1) (pe_lst (pa_cons (pv 1) pa_nil)) pps_nil) rfl rfl (by simp) (by show 1 ≤ 15; decide))) (pss_cons (ps_set (i := 4) nd rfl (.inl rfl) (pe_lst (pa_cons (pv 1) pa_nil))) (pss_cons (ps_while PassesOwn.never (pt_cmp (pc_dnotin hu (pv 2) (pv 3))) (pss_cons (ps_set (i := 5) nd rfl (.inl rfl) pe_dnewK) (pss_cons (ps_for PassesOwn.never rfl (pi_list (pv 4)) (pg_name (i := 6) nd rfl (.inl rfl)) (pss_one (ps_lock (ps_for PassesOwn.never rfl (pi_keys (pv 0)) (pg_name (i := 7) nd rfl (.inl rfl)) (pss_one (ps_if (PW.pt (pw_and (pt_cmpR op_in_seq (pv 6) (pe_dget hu (pv 0) (pv 7) (fun _ _ => rfl)) (by rfl)) (pw_and (pt_cmp (pc_dnotin hu (pv 7) (pv 3))) (pw_and1 (pt_cmp (pc_dnotin hu (pv 7) (pv 5))))))) (pss_one (ps_dput hu (pv 5) (pv 7) (pe_op op_cat (pe_dget hu (pv 3) (pv 6) (fun _ _ => rfl)) (pe_lst (pa_cons (pv 7) pa_nil))) rfl)) pss_nil)))))) (pss_cons (ps_expr (pe_bm PySem.F.plainAttrs_dict PySem.F.slot_dict_update PySem.F.type_dict_update mt_update (pv 3) (pa_cons (pv 5) pa_nil))) (pss_one (ps_set (i := 4) nd rfl (.inl rfl) (pe_callTy (call_list_dK rfl) (by rfl) M.list (by decide +kernel) (pa_cons (pv 5) pa_nil)))))))) (pss_one (ps_ret (pe_dget hu (pv 3) (pv 2) (fun _ _ => rfl))))))), ?_⟩
    refine fun A hA => ⟨_, rfl, _, rfl, by show 1 ≤ sizeLine; decide, fun t ht => ?_⟩
    have nAt : A ≠ t := fun z => by rw [← z, upd_same] at ht; cases ht
    have htH : H t = none := by rw [← ht, upd_ne nAt.symm]
    have hA2 : upd (upd H A (.dK [])) t (.lst [V.str m]) A = some (.dK []) := by rw [upd_ne nAt, upd_same]
    refine ⟨hA2, [((Sum.inr m : Key), V.ref t)], rfl, by show 1 ≤ 15; decide, ?_⟩
    have s1 : Same H (upd (upd (upd H A (.dK [])) t (.lst [V.str m])) A (.dK (mergeK [] [((Sum.inr m : Key), V.ref t)]))) := fun b o e => by
      rw [upd_ne (ne_of_none e hA), upd_ne (ne_of_none e htH), upd_ne (ne_of_none e hA)]
      exact e
    have ch1 : ChD (upd (upd (upd H A (.dK [])) t (.lst [V.str m])) A (.dK (mergeK [] [((Sum.inr m : Key), V.ref t)]))) A [(m, [m])] := by
      refine ⟨[t], upd_same, rfl, fun i b c e1 e2 => ?_⟩
      match i, e1, e2 with
      | 0, e1, e2 =>
        cases Option.some.inj e1
        cases Option.some.inj e2
        rw [upd_ne nAt.symm, upd_same]
        rfl
    generalize upd (upd (upd H A (.dK [])) t (.lst [V.str m])) A (.dK (mergeK [] [((Sum.inr m : Key), V.ref t)])) = H1 at s1 ch1 ⊢
    refine ⟨_, rfl, by show 1 ≤ sizeLine; decide, fun E0 hE0 => ?_⟩
    have s2 := sameNew hE0 (.lst [V.str m])
    refine ⟨fun n σ H4 => ∃ (kx : Nat) (E : Addr) (v5 v6 v7 : Option V), σ = [some (.ref d), some (.str m), some (.str v), some (.ref A), some (.ref E), v5, v6, v7] ∧ ShI H A E chg lead m kx H4 ∧ cnt chg lead m kx = n,
      ⟨_, 0, E0, none, none, none, rfl, ⟨s1.trans s2, hA, ch1.same s2, upd_same⟩, rfl⟩, ?_⟩
    clear s1 s2 ch1 hA2 nAt ht htH hE0
    rintro n σ H4 ⟨kx, E, v5, v6, v7, rfl, I, en⟩
    obtain ⟨ts, a1, a2, a3⟩ := id I.ch
    have hsome := chK_some a2 v
    have ndk := bfs_nd chg lead m kx
    have sz := bfs_sizes (lead := lead) hm ndc kx
    refine ⟨_, rfl, _, rfl, A, _, rfl, gk0 a1 rfl, _, rfl, ?_⟩
    rw [hsome]
    by_cases hin : v ∈ keysC (bfs chg lead m kx).1
    · rw [decide_eq_true hin]
      refine iteF ?_
      obtain ⟨c, hc, e⟩ := List.mem_map.mp hin
      obtain ⟨kv2, t2, q1, q2, q3⟩ := I.ch.at_ ndk hc
      have e : c.1 = v := e
      rw [e] at q2
      exact ⟨_, rfl, _, rfl, A, _, rfl, gk q1 q2, k H4 t2 kx I.sm hin ⟨c, hc, e, q3⟩⟩
    rw [decide_eq_false hin]
    refine iteT ⟨fun σ' H' => ∃ n', n' < n ∧ ∃ (kx : Nat) (E : Addr) (v5 v6 v7 : Option V), σ' = [some (.ref d), some (.str m), some (.str v), some (.ref A), some (.ref E), v5, v6, v7] ∧ ShI H A E chg lead m kx H' ∧ cnt chg lead m kx = n', fun σ' H' h => h, ?_⟩
    refine fun L hL => ?_
    have sL := sameNew hL (.dK [])
    have hdH : H4 d = some (.dK kv) := I.sm _ _ hd
    have LD4 : LeadD H4 d chg lead kv := LD.keep fun b xs e => I.sm _ _ e
    have nLd : L ≠ d := fun z => by rw [z, hdH] at hL; cases hL
    have nAd : A ≠ d := fun z => by rw [← z, hA] at hd; cases hd
    have nLA : L ≠ A := fun z => by rw [z, a1] at hL; cases hL
    have hen : (keysC (bfs chg lead m kx).2).length = (bfs chg lead m kx).2.length := keysC_len _
    have hnl : (bfs chg lead m kx).2.length ≤ chg.length + 1 := by
      rcases kx with _ | kx
      · show 1 ≤ _
        omega
      · have : (bfs chg lead m (kx + 1)).1.length = (bfs chg lead m kx).1.length + (bfs chg lead m (kx + 1)).2.length := List.length_append
        omega
    have Nin := bfs_in (chg := chg) (lead := lead) (m := m) kx
    have eN : (bfs chg lead m (kx + 1)).2 = dd (keysC (bfs chg lead m kx).1) (extC chg lead (bfs chg lead m kx).2) := rfl
    have eA : (bfs chg lead m (kx + 1)).1 = (bfs chg lead m kx).1 ++ (bfs chg lead m (kx + 1)).2 := rfl
    refine ⟨_, rfl, E, rfl, ⟨_, SqL.of (sL _ _ I.en)⟩, for_it walk_list (fun i σ H5 => ∃ v6 v7, σ = [some (.ref d), some (.str m), some (.str v), some (.ref A), some (.ref E), some (.ref L), v6, v7] ∧ Same H4 H5 ∧ ChD H5 L (dd (keysC (bfs chg lead m kx).1) (extC chg lead ((bfs chg lead m kx).2.take i))))
      ⟨_, _, rfl, sL, ⟨[], upd_same, rfl, fun i t c e => by simp at e⟩⟩ (fun i σ H5 _ ⟨_, _, _, s5, _⟩ => SqL.of (s5 _ _ I.en)) ?_ ?_⟩
    · clear sL
      rintro i y σ Hz H5 hi ⟨v6, v7, rfl, s5, C5⟩ ⟨e, hy⟩
      subst e
      rw [List.length_map, hen] at hi
      obtain ⟨c, hc⟩ : ∃ c, (bfs chg lead m kx).2[i]? = some c := ⟨_, List.getElem?_eq_getElem hi⟩
      obtain rfl : y = V.str c.1 := by
        rw [List.getElem?_map] at hy
        unfold keysC at hy
        rw [List.getElem?_map, hc] at hy
        exact (Option.some.inj hy).symm
      have hcA := Nin c (List.mem_of_getElem? hc)
      have hd5 := s5 _ _ hdH
      have LD5 : LeadD H5 d chg lead kv := LD4.keep fun b xs e => s5 _ _ e
      refine ⟨d, .dK kv, hd5, True.intro, fun od => ?_⟩
      have keysLen : kv.length = chg.length := by
        have := congrArg List.length LD5.1
        rw [List.length_map, List.length_map] at this
        exact this
      refine ⟨_, rfl, d, od, rfl, .inl ⟨kv, upd_same, for_it walk_keys (fun j σ H6 => ∃ v7, σ = [some (.ref d), some (.str m), some (.str v), some (.ref A), some (.ref E), some (.ref L), some (.str c.1), v7] ∧ Same (upd H4 d (.frz od (.dK kv))) H6 ∧ ChD H6 L (dd (keysC (bfs chg lead m kx).1) (extC chg lead ((bfs chg lead m kx).2.take i) ++ ((chg.take j).filter fun u => lead c.1 u).map fun u => (u, c.2 ++ [u]))))
        ⟨_, rfl, fun b o e => by
          by_cases hb : b = d
          · rw [hb, upd_same] at e ⊢
            exact e
          · rw [upd_ne hb] at e ⊢
            exact s5 _ _ e, ?_⟩ (fun j σ H6 _ ⟨_, _, s6, _⟩ => s6 _ _ upd_same) ?_ ?_⟩⟩
      · show ChD _ L (dd _ (_ ++ []))
        rw [List.append_nil]
        obtain ⟨ts5, b1, b2, b3⟩ := C5
        exact ⟨ts5, by rw [upd_ne nLd]; exact b1, b2, fun q t e e1 e2 => by rw [upd_ne (ne_of (b3 q t e e1 e2) hd5 (by intro z; cases z))]; exact b3 q t e e1 e2⟩
      · rintro j y σ Hz H6 hj ⟨v7, rfl, s6, C6⟩ ⟨e, kk, vv, hk, ex⟩
        subst e ex
        rw [keysLen] at hj
        obtain ⟨u, hu6⟩ : ∃ u, chg[j]? = some u := ⟨_, List.getElem?_eq_getElem hj⟩
        have eku : kV kk = V.str u := by
          have := congrArg (fun l => l[j]?) LD5.1
          simp only [List.getElem?_map, hk, hu6] at this
          exact Option.some.inj this
        rw [eku]
        have hum := List.mem_of_getElem? hu6
        obtain ⟨l, xs, g1, g2, g3, g4⟩ := LD4.2 u hum
        have g2' : H6 l = some (.lst xs) := s6 _ _ (by rw [upd_ne (ne_of g2 hdH (by intro z; cases z))]; exact g2)
        have hd6 := s6 _ _ (upd_same (H := H4) (a := d) (o := .frz od (.dK kv)))
        have chA6 : ChD H6 A (bfs chg lead m kx).1 := by
          obtain ⟨ts5, b1, b2, b3⟩ := I.ch
          exact ⟨ts5, s6 _ _ (by rw [upd_ne nAd]; exact b1), b2, fun q t e e1 e2 => s6 _ _ (by rw [upd_ne (ne_of (b3 q t e e1 e2) hdH (by intro z; cases z))]; exact b3 q t e e1 e2)⟩
        have tkj : ((chg.take (j + 1)).filter fun u => lead c.1 u).map (fun u => (u, c.2 ++ [u])) = ((chg.take j).filter fun u => lead c.1 u).map (fun u => (u, c.2 ++ [u])) ++ if lead c.1 u = true then [(u, c.2 ++ [u])] else [] := by
          rw [tk1 hu6, List.filter_append, List.map_append]
          cases hl : lead c.1 u <;> simp [hl]
        rw [tkj]
        refine ⟨_, rfl, _, rfl, _, rfl, d, _, rfl, .inl ⟨kv, Sum.inr u, .inr ⟨od, hd6⟩, rfl, g1.symm⟩, l, xs, rfl, .inl (SqL.of g2'), rfl, g3, _, rfl, ?_⟩
        show if inV (V.str c.1) xs = true then _ else _
        rw [g4]
        by_cases hl : lead c.1 u = true
        rotate_left
        · rw [if_neg hl, if_neg hl, List.append_nil]
          exact iteF ⟨_, rfl, s6, C6⟩
        rw [if_pos hl, if_pos hl, ← List.append_assoc, dd_snoc]
        obtain ⟨tA, w1, w2, w3⟩ := id chA6
        obtain ⟨tL, z1, z2, z3⟩ := id C6
        refine ⟨_, rfl, _, rfl, A, _, rfl, gk0 w1 rfl, _, rfl, ?_⟩
        rw [chK_some w2]
        by_cases hu1 : u ∈ keysC (bfs chg lead m kx).1
        · rw [decide_eq_true hu1, if_pos (.inl hu1), List.append_nil]
          exact iteF (iteF ⟨_, rfl, s6, C6⟩)
        rw [decide_eq_false hu1]
        refine iteT ?_
        refine ⟨_, rfl, _, rfl, L, _, rfl, gk0 z1 rfl, _, rfl, ?_⟩
        rw [chK_some z2]
        by_cases hu2 : u ∈ keysC (dd (keysC (bfs chg lead m kx).1) (extC chg lead ((bfs chg lead m kx).2.take i) ++ ((chg.take j).filter fun u => lead c.1 u).map fun u => (u, c.2 ++ [u])))
        · rw [decide_eq_true hu2, if_pos (.inr hu2), List.append_nil]
          exact iteF ⟨_, rfl, s6, C6⟩
        rw [decide_eq_false hu2, if_neg (by intro z; rcases z with z | z; exact hu1 z; exact hu2 z)]
        refine iteT ?_
        obtain ⟨kv9, t9, q1, q2, q3⟩ := chA6.at_ ndk hcA
        refine ⟨_, rfl, _, rfl, A, _, rfl, gk q1 q2, _, rfl, by show 1 ≤ sizeLine; decide, fun t1 ht1 => ?_⟩
        have y1 := sameNew ht1 (.lst [V.str u])
        have c2l := bfs_long chg lead m kx c (List.mem_of_getElem? hc)
        have kx10 : kx ≤ 10 := by
          rcases bfs_all chg lead m hm hR kx with h | h
          · exact absurd (h v hv) hin
          · omega
        refine ⟨t9, t1, _, _, rfl, rfl, y1 _ _ q3, upd_same, by rw [List.length_map]; exact Nat.le_of_lt (small1000 (by show c.2.length + 1 ≤ 1000; omega)), fun t2 ht2 => ?_⟩
        have y2 := sameNew ht2 (.lst (c.2.map V.str ++ [V.str u]))
        have y12 := y1.trans y2
        have dl := dd_few (chg := chg) (keysC (bfs chg lead m kx).1) (extC chg lead ((bfs chg lead m kx).2.take i) ++ ((chg.take j).filter fun u => lead c.1 u).map fun u => (u, c.2 ++ [u])) (fun e he => by
          rcases List.mem_append.mp he with he | he
          · obtain ⟨e', _, he2⟩ := List.mem_flatMap.mp he
            obtain ⟨w', hw', rfl⟩ := List.mem_map.mp he2
            exact (List.mem_filter.mp hw').1
          · obtain ⟨w', hw', rfl⟩ := List.mem_map.mp he
            exact List.mem_of_mem_take (List.mem_filter.mp hw').1)
        refine ⟨_, rfl, _, rfl, L, _, rfl, DPut.k (k := (Sum.inr u : Key)) (y12 _ _ z1) (by rw [chK_len z2]; exact small1000 (by omega)), ?_⟩
        obtain ⟨p1, p2⟩ := ChD.put (c := (u, c.2 ++ [u])) (t := t2) (y12 _ _ z1) z2 (fun q t e e1 e2 => y12 _ _ (z3 q t e e1 e2)) hu2 (by rw [upd_same, List.map_append]; rfl)
        have p1 : putK (chK (dd (keysC (bfs chg lead m kx).1) (extC chg lead ((bfs chg lead m kx).2.take i) ++ ((chg.take j).filter fun u => lead c.1 u).map fun u => (u, c.2 ++ [u]))) tL) (Sum.inr u : Key) (.ref t2) = _ := p1
        rw [p1]
        refine ⟨_, rfl, fun b o e => ?_, p2⟩
        have hb : b ≠ L := fun z => by
          rw [z, upd_ne nLd, hL] at e
          cases e
        rw [upd_ne hb]
        exact y12 _ _ (s6 _ _ e)
      · rintro σ H6 ⟨v7, rfl, s6, C6⟩
        have hd6 := s6 _ _ (upd_same (H := H4) (a := d) (o := .frz od (.dK kv)))
        refine ⟨hd6, _, _, rfl, same_unfreeze hdH s6, ?_⟩
        rw [keysLen, List.take_length] at C6
        have e9 : (bfs chg lead m kx).2.take (i + 1) = (bfs chg lead m kx).2.take i ++ [c] := tk1 hc
        rw [e9]
        have ee : extC chg lead ((bfs chg lead m kx).2.take i ++ [c]) = extC chg lead ((bfs chg lead m kx).2.take i) ++ (chg.filter fun u => lead c.1 u).map fun u => (u, c.2 ++ [u]) := by
          unfold extC
          rw [List.flatMap_append]
          simp [ext1]
        rw [ee]
        obtain ⟨ts5, b1, b2, b3⟩ := C6
        exact ⟨ts5, by rw [upd_ne nLd]; exact b1, b2, fun q t e e1 e2 => by rw [upd_ne (ne_of (b3 q t e e1 e2) hd6 (by intro z; cases z))]; exact b3 q t e e1 e2⟩
    · clear sL
      rintro σ H5 ⟨v6, v7, rfl, s5, C5⟩
      rw [List.length_map, hen, List.take_length, ← eN] at C5
      have hne : (bfs chg lead m (kx + 1)).2 ≠ [] := fun z => hin (bfs_stop chg lead m hm hR z v hv)
      have hcl := cnt_less chg lead m hm hne
      have ndN : (keysC (bfs chg lead m (kx + 1)).2).Nodup := dd_nd _ _
      obtain ⟨kvA, more, x1, x2, x3, x4, x5, x6⟩ := (I.ch.same s5).merge C5 ndN fun q hq => by
        obtain ⟨e, he, rfl⟩ := List.mem_map.mp hq
        exact (dd_sub _ _ e he).2
      have sz2 := bfs_sizes (lead := lead) hm ndc (kx + 1)
      have sz3 : (bfs chg lead m (kx + 1)).1.length = (bfs chg lead m kx).1.length + (bfs chg lead m (kx + 1)).2.length := List.length_append
      refine ⟨_, rfl, .inr (.inr (.inl ⟨rfl, .inl ⟨_, x1⟩⟩)), _, rfl, A, L, kvA, more, rfl, rfl, nLA.symm, x1, x2, by rw [x3, x4]; exact Nat.le_of_lt (small1000 (by omega)), ?_⟩
      have x2' : upd H5 A (.dK (mergeK kvA more)) L = some (.dK more) := by rw [upd_ne nLA]; exact x2
      refine ⟨_, rfl, L, more, rfl, x2', fun E2 hE2 => ?_⟩
      have sE := sameNew hE2 (.lst (more.map fun q => kV q.1))
      refine ⟨cnt chg lead m (kx + 1), by omega, kx + 1, E2, _, _, _, rfl, ⟨fun b o e => ?_, hA, x6.same sE, by rw [upd_same, x5]⟩, rfl⟩
      have hb : b ≠ A := fun z => by rw [z, hA] at e; cases e
      exact sE _ _ (by rw [upd_ne hb]; exact s5 _ _ (I.sm _ _ e))
end
end Sl

set_option Elab.async false
set_option linter.all false
set_option maxRecDepth 100000
set_option maxHeartbeats 4000000
namespace Sl
open PySem PySem.Spec L2 OwnR LamX
/-- the leaders of a car, in both drives -/
def ldA (secs : List Sec) (cars : List Car) (u : Str) (j : Nat) : List V := (List.range j).map fun k => strO (ldrC secs cars k u)
def ldl (secs : List Sec) (cars : List Car) (n u : Str) : List V := ldA secs cars u secs.length ++ ldA secs (lessC cars n) u secs.length
theorem ldA_succ (secs : List Sec) (cars : List Car) (u : Str) (j : Nat) : ldA secs cars u (j + 1) = ldA secs cars u j ++ [strO (ldrC secs cars j u)] := by
  unfold ldA
  rw [List.range_succ, List.map_append]
  rfl
theorem ldA_len (secs : List Sec) (cars : List Car) (u : Str) (j : Nat) : (ldA secs cars u j).length = j := by
  unfold ldA
  rw [List.length_map, List.length_range]
theorem strO_flat (o : Option Str) : flatV (strO o) = true := by cases o <;> rfl
theorem ldA_flat (secs : List Sec) (cars : List Car) (u : Str) (j : Nat) : (ldA secs cars u j).all flatV = true := by
  unfold ldA
  rw [List.all_map]
  exact List.all_eq_true.mpr fun k _ => strO_flat _
theorem ldl_flat (secs : List Sec) (cars : List Car) (n u : Str) : (ldl secs cars n u).all flatV = true := by
  unfold ldl
  rw [List.all_append, ldA_flat, ldA_flat]
  rfl
theorem inV_strO (z : Str) : ∀ l : List (Option Str), inV (V.str z) (l.map strO) = l.any fun o => decide (o = some z)
  | [] => rfl
  | o :: r => by
    have ih := inV_strO z r
    unfold inV at ih ⊢
    rw [List.map_cons, List.any_cons, ih, List.any_cons]
    congr 1
    cases o with
    | none => rfl
    | some y =>
      show eqV (V.str y) (V.str z) = _
      rw [eqV_str]
      by_cases h : y = z <;> simp [h]
theorem ldl_in (secs : List Sec) (cars : List Car) (n u z : Str) : inV (V.str z) (ldl secs cars n u) = leadB secs cars n z u := by
  have e : ldl secs cars n u = (((List.range secs.length).map fun k => ldrC secs cars k u) ++ (List.range secs.length).map fun k => ldrC secs (lessC cars n) k u).map strO := by
    unfold ldl ldA
    rw [List.map_append, List.map_map, List.map_map]
    rfl
  rw [e, inV_strO, List.any_append, List.any_map, List.any_map]
  unfold leadB
  generalize List.range secs.length = l
  induction l with
  | nil => rfl
  | cons k r ih =>
    rw [List.any_cons, List.any_cons, List.any_cons, ← ih]
    simp only [Function.comp]
    cases decide (ldrC secs cars k u = some z) <;> cases decide (ldrC secs (lessC cars n) k u = some z) <;> cases (r.any fun x => decide (ldrC secs cars x u = some z)) <;> simp
theorem valV_mem : ∀ {kvs : List (Key × V)} {k : Key}, valV kvs k = none → ∀ kv ∈ kvs, kv.1 ≠ k
  | [], _, _, kv, h => nomatch h
  | (k', v') :: r, k, hv, kv, h => by
    by_cases e : k' = k
    · subst e
      rw [valV_pos rfl] at hv
      cases hv
    · rw [valV_neg e] at hv
      rcases List.mem_cons.mp h with rfl | h
      · exact e
      · exact valV_mem hv kv h
theorem putK_stay {kvs : List (Key × V)} {k : Key} {v : V} (h : valV kvs k = none) : putK (kvs ++ [(k, v)]) k v = kvs ++ [(k, v)] := by
  have hm := valV_mem h
  unfold putK
  rw [if_pos (by simp), List.map_append]
  congr 1
  · refine (List.map_congr_left fun kv hkv => ?_).trans (List.map_id kvs)
    rw [if_neg (hm kv hkv)]
    rfl
  · simp
def ldKv (us : List Str) (ts : List Addr) : List (Key × V) := (us.zip ts).map fun q => ((Sum.inr q.1 : Key), V.ref q.2)
theorem ldKv_get : ∀ {us : List Str} {ts : List Addr} {i : Nat} {u : Str} {t : Addr}, us.Nodup → us[i]? = some u → ts[i]? = some t → valV (ldKv us ts) (Sum.inr u : Key) = some (.ref t)
  | [], _, _, _, _, _, h, _ => by simp at h
  | a :: r, ts, i, u, t, nd, h1, h2 => by
    cases ts with
    | nil => simp at h2
    | cons b q =>
      show valV (((Sum.inr a : Key), V.ref b) :: ldKv r q) _ = _
      rw [List.nodup_cons] at nd
      cases i with
      | zero =>
        cases Option.some.inj h1
        cases Option.some.inj h2
        exact valV_pos rfl
      | succ j =>
        have h1 : r[j]? = some u := by simpa using h1
        have h2 : q[j]? = some t := by simpa using h2
        have ne : ¬ a = u := fun z => nd.1 (z ▸ List.mem_of_getElem? h1)
        rw [valV_neg fun z => ne (Sum.inr.inj z)]
        exact ldKv_get nd.2 h1 h2
theorem ldKv_keys : ∀ {us : List Str} {ts : List Addr}, ts.length = us.length → (ldKv us ts).map (fun q => kV q.1) = us.map V.str
  | [], _, _ => rfl
  | a :: r, ts, h => by
    cases ts with
    | nil => simp at h
    | cons b q =>
      show kV (Sum.inr a : Key) :: (ldKv r q).map _ = _
      rw [ldKv_keys (by simpa using h)]
      rfl
section
variable {P : Program} {w : World} {K : PySem.W.Frag} {mg : Str → Option Value} {base : Heap}
theorem in_ext {X : Cx} : InOp X .Add rExt2 := fun pins s σ H x y v u Q I rx ry h => iop_ext pins s σ H x y v u Q I rx ry h
/-! ### chain_between -/
def ChainV (H : Hp) (secs : List Sec) (cars : List Car) (n o : Str) (v : V) : Prop := (v = .non ∧ o ∉ chgL secs cars n) ∨ ∃ (l : Addr) (k : Nat) (c : Ch), v = .ref l ∧ o ∈ chgL secs cars n ∧ c ∈ (bfs (chgL secs cars n) (leadB secs cars n) n k).1 ∧ c.1 = o ∧ H l = some (.lst (c.2.map V.str))
def spChain (CR : Addr) (T : List (Addr × Str)) : Sp := fun vs H Q _ => ∃ (p a : Addr) (secs : List Sec) (cars : List Car) (n o : Str), vs = [.ref p, .ref a, .str n, .str o] ∧ RC CR T H p a secs cars ∧ n ∈ names cars ∧ o ∈ names cars ∧
  ∀ H' v, ExtN H H' → Tabs T H' → ChainV H' secs cars n o v → Q v H'
def nChain : List Str := ["road", "cars", "name", "other", "drive", "less", "changed", "sections", "leaders", "car", "section"]
theorem scChain : FnScope nChain ["road", "cars", "name", "other"] (defScope sChainBetween) := ⟨rfl, rfl, rfl, by decide +kernel, rfl, by decide +kernel, by decide +kernel⟩
theorem ok_chain {f CR C pp fP lp kp : Addr} {fd dP : FuncData} {T : List (Addr × Str)} (F : Fun K "chain_between" "chain_between" sChainBetween f fd) (I : Inf P w K mg base CR C T) (RR : RoadT K w mg CR lp kp)
    (PO : PropOf K CR "sections" pp fP) (bP : Binds K dP ["self"] []) (GP : FnOk P w K mg base CX0 1 fP dP ["self"] (getSp CR "_sections"))
    (IW : WithoutC P w K mg base) (IC : ChangedC P w K mg base C) (IS : ∃ f fd, Fb K mg "_shortest_chain" sShortestChain ["leaders", "first", "last"] f fd ∧ FnOk P w K mg base CX0 1 f fd ["leaders", "first", "last"] spShort) :
    FnOk P w K mg base CX0 7 f fd ["road", "cars", "name", "other"] (spChain CR T) := by
  refine F.ok scChain (fun vs H Q E h => ?_) (fun cdv A outer s H vs Q E hr h => ?_)
  · obtain ⟨p, a, secs, cars, n, o, rfl, _⟩ := h
    rfl
  · obtain ⟨p, a, secs, cars, n, o, rfl, A0, hn, ho, k⟩ := h
    have nd := scChain.nd
    have hu := hu_of hr
    have M := I.M
    have R := I.R
    obtain ⟨fI, dI, MI, bI, GI⟩ := I.init
    obtain ⟨fK, dK, BK, GK⟩ := I.cars
    obtain ⟨fN, dN, BN, GN⟩ := I.known
    obtain ⟨fW, dW, BW, GW⟩ := IW
    obtain ⟨fC, dC, BC, GC⟩ := IC
    obtain ⟨fL, dL, BL, GL⟩ := I.leader
    obtain ⟨fS, dS, BS, GS⟩ := IS
    have room : ∀ n, n ≤ 6 → Room n (A.deeper (PyProof.Rows.envOfC "chain_between" (defScope sChainBetween) s.heap.objs.size f cdv)) := fun n h => hr.mono h
    have hr1 := room 1 (by decide)
    have hr2 := room 2 (by decide)
    have hr3 := room 3 (by decide)
    have hr5 := room 5 (by decide)
    refine ⟨_, (pss_cons (ps_expr (pe_call GK hr3 (by rfl) BK.at_ BK.fn.kp BK.bd .nil pass0 (pa_cons (pv 1) pa_nil))) (pss_cons (ps_expr (pe_call GN hr1 (by rfl) BN.at_ BN.fn.kp BN.bd .nil pass0 (pa_cons (pv 1) (pa_cons (pv 2) pa_nil)))) (pss_cons (ps_expr (pe_call GN hr1 (by rfl) BN.at_ BN.fn.kp BN.bd .nil pass0 (pa_cons (pv 1) (pa_cons (pv 3) pa_nil)))) (pss_cons (ps_set (i := 4) nd rfl (.inr rfl) (pe_make MI GI hr (by rfl) R.mgC bI .nil pass0 (pa_cons (pv 0) (pa_cons (pv 1) pa_nil)))) (pss_cons (ps_set (i := 5) nd rfl (.inr rfl) (pe_make MI GI hr (by rfl) R.mgC bI .nil pass0 (pa_cons (pv 0) (pa_cons (pe_call GW hr1 (by rfl) BW.at_ BW.fn.kp BW.bd .nil pass0 (pa_cons (pv 1) (pa_cons (pv 2) pa_nil))) pa_nil)))) (pss_cons (ps_set (i := 6) nd rfl (.inl rfl) (pe_call GC hr5 (by rfl) BC.at_ BC.fn.kp BC.bd .nil pass0 (pa_cons (pv 1) (pa_cons (pv 4) (pa_cons (pv 5) pa_nil))))) (pss_cons (ps_if (pt_cmpR op_notIn_seq (pv 3) (pv 6) (by rfl)) (pss_one (ps_ret pe_non)) pss_nil) (pss_cons (ps_set (i := 7) nd rfl (.inl rfl) (pe_callTy cr_range1 (by rfl) M.range PyProof.Rows.boot_range (pa_cons (pe_callB call_len_seq (by rfl) M.len boot_len (pa_cons (pe_prop (pv 0) RR.cl PO GP hr2 bP .nil pass0 rfl) pa_nil)) pa_nil))) (pss_cons (ps_set (i := 8) nd rfl (.inl rfl) pe_dnewK) (pss_cons (ps_for PassesOwn.never rfl (pi_list (pv 6)) (pg_name (i := 9) nd rfl (.inr rfl)) (pss_cons (ps_dput hu (pv 8) (pv 9) (pe_lc (own := [("section", 10)]) (g := gName 10) (tt := tYes) (te := tMeth C "leader" (spLeader C) [] E0 (tVar 4) (tCons (tVar 9) (tCons (tVar 10) tNil))) (by rfl) nd (pi_rngO (pv 7)) (blkOk_by (N := nChain) (sc := defScope sChainBetween) (by decide +kernel)) (fun _ _ _ _ _ => pg_name (i := 10) nd rfl (Or.inl rfl)) (fun _ _ _ _ _ => pts_nil) (fun _ _ _ _ _ => (pe_meth (pv 4) R.cl BL.at_ GL hr3 BL.bd .nil pass0 (pa_cons (pv 9) (pa_cons (pv 10) pa_nil))))) rfl) (pss_one (ps_daug hu (pv 8) (pv 9) (pe_lc (own := [("section", 10)]) (g := gName 10) (tt := tYes) (te := tMeth C "leader" (spLeader C) [] E0 (tVar 5) (tCons (tVar 9) (tCons (tVar 10) tNil))) (by rfl) nd (pi_rngO (pv 7)) (blkOk_by (N := nChain) (sc := defScope sChainBetween) (by decide +kernel)) (fun _ _ _ _ _ => pg_name (i := 10) nd rfl (Or.inl rfl)) (fun _ _ _ _ _ => pts_nil) (fun _ _ _ _ _ => (pe_meth (pv 5) R.cl BL.at_ GL hr3 BL.bd .nil pass0 (pa_cons (pv 9) (pa_cons (pv 10) pa_nil))))) in_ext (by intros; rfl))))) (pss_one (ps_ret (pe_call GS hr1 (by rfl) BS.at_ BS.fn.kp BS.bd .nil pass0 (pa_cons (pv 8) (pa_cons (pv 2) (pa_cons (pv 3) pa_nil)))))))))))))))), ?_⟩
    have CO := A0.co
    have few := CO.few
    have h12 := A0.so.few
    refine ⟨_, rfl, a, cars, rfl, A0.ct, CO, fun H1 s1 => ?_⟩
    have A1 := A0.same s1
    refine ⟨_, rfl, _, rfl, a, cars, n, rfl, A1.ct, CO, hn, fun H2 s2 => ?_⟩
    have A2 := A1.same s2
    refine ⟨_, rfl, _, rfl, a, cars, o, rfl, A2.ct, CO, ho, fun H3 s3 => ?_⟩
    have A3 := A2.same s3
    have s03 : Same H H3 := s1.trans (s2.trans s3)
    clear A1 A2 s1 s2 s3
    refine ⟨_, rfl, _, rfl, fun dv dx hdv hdx ndx => mk_drive A3.rd A3.ct A3.so A3.co A3.tb hdv hdx fun H4 e4 T4 da4 => ⟨rfl, ?_⟩⟩
    have A4 := A3.ext e4 T4
    refine ⟨_, rfl, _, rfl, _, rfl, a, cars, n, rfl, A4.ct, CO, fun H5 b s5 hb => ?_⟩
    have A5 := A4.same s5
    refine fun dw dy hdw hdy ndy => mk_drive A5.rd hb A5.so (less_ok CO n) A5.tb hdw hdy fun H6 e6 T6 db6 => ⟨rfl, ?_⟩
    have A6 := A5.ext e6 T6
    have da6 := da4.ext ((ExtN.same s5).trans e6)
    refine ⟨_, rfl, _, rfl, _, rfl, a, dv, dw, secs, cars, n, rfl, A6.ct, CO, h12, da6, db6, fun H7 l s7 hl7 hl => ?_⟩
    have A7 := A6.same s7
    have da7 := da6.ext (ExtN.same s7)
    have db7 := db6.ext (ExtN.same s7)
    have x7 : ExtN H H7 := (ExtN.same s03).trans (e4.trans ((ExtN.same s5).trans (e6.trans (ExtN.same s7))))
    clear A0 A3 A4 A5 A6 s03 e4 s5 e6 s7 da4 da6 db6 T4 T6 hdv hdx hdw hdy hb hl7
    have cl := chg_len (secs := secs) (n := n) CO
    have cn := chg_nd (secs := secs) (n := n) CO
    have cm : ∀ u ∈ chgL secs cars n, u ∈ names cars ∧ u ∈ names (lessC cars n) := fun u h => chg_mem h
    have cR := chain_reach (secs := secs) CO n
    have cno : n ∉ chgL secs cars n := fun z => (chg_of z).1 rfl
    obtain ⟨chg, hchg⟩ : ∃ chg, chg = chgL secs cars n := ⟨_, rfl⟩
    unfold ChainV at k
    rw [← hchg] at cl cn cm cR cno hl k
    refine ⟨_, rfl, _, rfl, l, _, rfl, .inl (SqL.of hl), rfl, flat_strs _, _, rfl, ?_⟩
    have ein : inV (V.str o) (chg.map V.str) = decide (o ∈ chg) := by rw [inV_str]
    by_cases hin : o ∈ chg
    rotate_left
    · rw [show (if true = true then !inV (V.str o) (chg.map V.str) else inV (V.str o) (chg.map V.str)) = true by rw [ein, decide_eq_false hin]; rfl]
      exact iteT (k H7 .non x7 A7.tb (.inl ⟨rfl, hin⟩))
    rw [show (if true = true then !inV (V.str o) (chg.map V.str) else inV (V.str o) (chg.map V.str)) = false by rw [ein, decide_eq_true hin]; rfl]
    refine iteF ?_
    obtain ⟨rdx, rts, ru, r1, r2, r3⟩ := id A7.rd
    obtain ⟨us, r4, r5, r6⟩ := id r2
    have hus : (us.map V.ref).length = secs.length := by rw [List.length_map, r5]
    refine ⟨_, rfl, p, rdx, _, rfl, r1, p, rdx, _, _, rfl, r1, rf_sections _ _, rts, _, rfl, .inr (SqT.of r4), _, rfl, fun g hg => ?_⟩
    rw [hus]
    have s8 := sameNew hg (.rng 0 ((secs.length : Nat) : Int))
    have hg8 : upd H7 g (.rng 0 ((secs.length : Nat) : Int)) g = some (.rng 0 ((secs.length : Nat) : Int)) := upd_same
    have hl8 := s8 _ _ hl
    have A8 := A7.same s8
    have da8 := da7.ext (ExtN.same s8)
    have db8 := db7.ext (ExtN.same s8)
    have x8 := x7.trans (ExtN.same s8)
    show tSeq _ _ _ _ (upd H7 g (.rng 0 ((secs.length : Nat) : Int)))
    generalize upd H7 g (.rng 0 ((secs.length : Nat) : Int)) = H8 at hg8 hl8 A8 da8 db8 x8 ⊢
    clear s8 A7 da7 db7 x7 hl hg r1 r2 r3 r4 r6
    refine fun D hD => ?_
    have s9 := sameNew hD (.dK [])
    have bnd : -(2 ^ 62) ≤ (0 : Int) ∧ (0 : Int) < 2 ^ 62 ∧ -(2 ^ 62) ≤ ((secs.length : Nat) : Int) ∧ ((secs.length : Nat) : Int) < 2 ^ 62 := ⟨by decide, by decide, by omega, by omega⟩
    refine ⟨_, rfl, l, rfl, ⟨_, SqL.of (s9 _ _ hl8)⟩, for_it walk_list (fun i σ H10 => ∃ (v9 : Option V) (ts : List Addr), σ = [some (.ref p), some (.ref a), some (.str n), some (.str o), some (.ref dv), some (.ref dw), some (.ref l), some (.ref g), some (.ref D), v9, none] ∧ Same H8 H10 ∧ H10 D = some (.dK (ldKv (chg.take i) ts)) ∧ ts.length = i ∧ ∀ (j : Nat) (t : Addr) (u : Str), ts[j]? = some t → chg[j]? = some u → H10 t = some (.lst (ldl secs cars n u)))
      ⟨none, [], rfl, s9, upd_same, rfl, fun j t u e => by simp at e⟩ (fun i σ H10 _ ⟨_, _, _, e10, _⟩ => SqL.of (e10 _ _ hl8)) ?_ ?_⟩
    · rintro i y σ Hz H10 hi ⟨v9, ts, rfl, e10, d1, d2, d3⟩ ⟨e, hy⟩
      subst e
      obtain ⟨u, hu', rfl⟩ : ∃ u, chg[i]? = some u ∧ y = V.str u := by
        rw [List.getElem?_map] at hy
        obtain ⟨t, z1, z2⟩ := Option.map_eq_some_iff.mp hy
        exact ⟨t, z1, z2.symm⟩
      rw [List.length_map] at hi
      obtain ⟨m1, m2⟩ := cm u (List.mem_of_getElem? hu')
      have htk : (chg.take i).length = i := by rw [List.length_take]; omega
      have hnew : u ∉ chg.take i := fun z => by
        obtain ⟨q, hq⟩ := List.mem_iff_getElem?.mp z
        rw [List.getElem?_take] at hq
        split at hq
        · have := nd_ix cn hq hu'
          omega
        · cases hq
      refine ⟨_, rfl, g, 0, _, rfl, e10 _ _ hg8, bnd, fun L1 hL1 => ?_⟩
      refine lc_it walk_range (fun j H => Same H10 H ∧ H L1 = some (.lst (ldA secs cars u j))) ⟨sameNew hL1 _, upd_same⟩ (fun _ _ _ _ => True.intro) ?_ ?_
      · rintro j x H21 H20 hj ⟨k20, hL20⟩ ⟨e, ex⟩
        have ex : x = V.int ((j : Nat) : Int) := by
          rw [ex]
          show V.int (0 + ((j : Nat) : Int)) = _
          rw [Int.zero_add]
        subst e ex
        have hj : j < secs.length := by rw [Int.sub_zero, Int.toNat_natCast] at hj; exact hj
        have dz := da8.ext (ExtN.same (e10.trans k20))
        obtain ⟨_, W20, D20⟩ := id dz
        refine ⟨rfl, yes_of ?_⟩
        refine ⟨_, rfl, dv, W20.dx, _, rfl, D20.ins, df5_no _ _ _ _ _ (by decide +kernel) (by decide +kernel) (by decide +kernel) (by decide +kernel) (by decide +kernel), _, rfl, _, rfl, dv, secs, cars, u, j, rfl, dz, m1, hj, ?_⟩
        refine ⟨_, hL20, by rw [ldA_len]; exact small1000 (by omega), fun b e e2 => by rw [upd_ne (ne_of_none e2 hL1)]; exact k20 _ _ e2, ?_⟩
        rw [upd_same, ldA_succ]
      rintro H11 ⟨k11, hL11⟩
      rw [Int.sub_zero, Int.toNat_natCast] at hL11
      have d1' := k11 _ _ d1
      refine ⟨_, rfl, _, rfl, D, _, rfl, DPut.k (k := (Sum.inr u : Key)) d1' (by unfold ldKv; rw [List.length_map, List.length_zip, d2, htk, Nat.min_self]; exact small1000 (by omega)), ?_⟩
      have pn : putK (ldKv (chg.take i) ts) (Sum.inr u : Key) (.ref L1) = ldKv (chg.take i) ts ++ [((Sum.inr u : Key), V.ref L1)] := put_new (by rw [d2, htk]) hnew
      have ekv : ldKv (chg.take i) ts ++ [((Sum.inr u : Key), V.ref L1)] = ldKv (chg.take (i + 1)) (ts ++ [L1]) := by
        rw [tk1 hu']
        unfold ldKv
        rw [zip_snoc (by rw [d2, htk]), List.map_append]
        rfl
      have vnone : valV (ldKv (chg.take i) ts) (Sum.inr u : Key) = none := by
        have hh : putK (ldKv (chg.take i) ts) (Sum.inr u : Key) (.ref L1) = ldKv (chg.take i) ts ++ [((Sum.inr u : Key), V.ref L1)] := pn
        have hs := chK_some (xs := (chg.take i).map fun u => (u, [])) (ts := ts) (by rw [List.length_map, d2, htk]) u
        have ek : chK ((chg.take i).map fun u => (u, [])) ts = ldKv (chg.take i) ts := by
          unfold chK ldKv keysC
          rw [List.map_map]
          congr 2
          exact List.map_id _
        have ek2 : keysC ((chg.take i).map fun u => (u, [])) = chg.take i := by
          unfold keysC
          rw [List.map_map]
          exact List.map_id _
        rw [ek, ek2, decide_eq_false hnew] at hs
        exact Option.isSome_eq_false_iff.mp hs |> Option.isNone_iff_eq_none.mp
      rw [pn]
      have nDL1 : D ≠ L1 := ne_of_none d1 hL1
      have hDH : ∀ {b ob}, H8 b = some ob → b ≠ D := fun e z => by rw [z, hD] at e; cases e
      have s12 : Same H8 (upd H11 D (.dK (ldKv (chg.take i) ts ++ [((Sum.inr u : Key), V.ref L1)]))) := fun b ob e => by
        rw [upd_ne (hDH e)]
        exact k11 _ _ (e10 _ _ e)
      have d12 : upd H11 D (.dK (ldKv (chg.take i) ts ++ [((Sum.inr u : Key), V.ref L1)])) D = some (.dK (ldKv (chg.take i) ts ++ [((Sum.inr u : Key), V.ref L1)])) := upd_same
      have L12 : upd H11 D (.dK (ldKv (chg.take i) ts ++ [((Sum.inr u : Key), V.ref L1)])) L1 = some (.lst (ldA secs cars u secs.length)) := by rw [upd_ne nDL1.symm]; exact hL11
      have o12 : ∀ (j : Nat) (t : Addr) (w : Str), ts[j]? = some t → chg[j]? = some w → upd H11 D (.dK (ldKv (chg.take i) ts ++ [((Sum.inr u : Key), V.ref L1)])) t = some (.lst (ldl secs cars n w)) ∧ t ≠ L1 := fun j t w e1 e2 => by
        have q := d3 j t w e1 e2
        exact ⟨by rw [upd_ne (ne_of q d1 (by intro z; cases z))]; exact k11 _ _ q, ne_of_none q hL1⟩
      generalize upd H11 D (.dK (ldKv (chg.take i) ts ++ [((Sum.inr u : Key), V.ref L1)])) = H12 at s12 d12 L12 o12 ⊢
      have vget : valV (ldKv (chg.take i) ts ++ [((Sum.inr u : Key), V.ref L1)]) (Sum.inr u : Key) = some (.ref L1) := by
        rw [ekv]
        exact ldKv_get (List.Nodup.sublist (List.take_sublist _ _) cn) (i := i) (by rw [List.getElem?_take, if_pos (by omega)]; exact hu') (by rw [List.getElem?_append_right (by omega), d2, Nat.sub_self]; rfl)
      refine ⟨_, rfl, _, rfl, D, _, rfl, gk d12 vget, ?_⟩
      refine ⟨_, rfl, g, 0, _, rfl, s12 _ _ hg8, bnd, fun L2 hL2 => ?_⟩
      refine lc_it walk_range (fun j H => Same H12 H ∧ H L2 = some (.lst (ldA secs (lessC cars n) u j))) ⟨sameNew hL2 _, upd_same⟩ (fun _ _ _ _ => True.intro) ?_ ?_
      · rintro j x H21 H20 hj ⟨k20, hL20⟩ ⟨e, ex⟩
        have ex : x = V.int ((j : Nat) : Int) := by
          rw [ex]
          show V.int (0 + ((j : Nat) : Int)) = _
          rw [Int.zero_add]
        subst e ex
        have hj : j < secs.length := by rw [Int.sub_zero, Int.toNat_natCast] at hj; exact hj
        have dz := db8.ext (ExtN.same (s12.trans k20))
        obtain ⟨_, W20, D20⟩ := id dz
        refine ⟨rfl, yes_of ?_⟩
        refine ⟨_, rfl, dw, W20.dx, _, rfl, D20.ins, df5_no _ _ _ _ _ (by decide +kernel) (by decide +kernel) (by decide +kernel) (by decide +kernel) (by decide +kernel), _, rfl, _, rfl, dw, secs, (lessC cars n), u, j, rfl, dz, m2, hj, ?_⟩
        refine ⟨_, hL20, by rw [ldA_len]; exact small1000 (by omega), fun b e e2 => by rw [upd_ne (ne_of_none e2 hL2)]; exact k20 _ _ e2, ?_⟩
        rw [upd_same, ldA_succ]
      rintro H13 ⟨k13, hL13⟩
      rw [Int.sub_zero, Int.toNat_natCast] at hL13
      have L13 := k13 _ _ L12
      have d13 := k13 _ _ d12
      have nDL1' : D ≠ L1 := nDL1
      refine ⟨L1, L2, _, _, rfl, rfl, L13, hL13, by rw [ldA_len, ldA_len]; exact Nat.le_of_lt (small1000 (by omega)), _, DPut.k (k := (Sum.inr u : Key)) (by rw [upd_ne nDL1']; exact d13) (by rw [ekv]; unfold ldKv; rw [List.length_map, List.length_zip, List.length_append, d2, List.length_take]; exact small1000 (by simp; omega)), ?_⟩
      rw [putK_stay vnone, ekv]
      refine ⟨_, ts ++ [L1], rfl, fun b ob e => ?_, upd_same, by rw [List.length_append, d2]; rfl, fun j t w e1 e2 => ?_⟩
      · have hb1 : b ≠ L1 := fun z => by
          rw [z] at e
          exact absurd (e10 _ _ e) (by rw [hL1]; intro z; cases z)
        rw [upd_ne (hDH e), upd_ne hb1]
        exact k13 _ _ (s12 _ _ e)
      · rcases snoc_get e1 with e1 | ⟨hq, rfl⟩
        · obtain ⟨q1, q2⟩ := o12 j t w e1 e2
          have q3 := k13 _ _ q1
          rw [upd_ne (ne_of q3 d13 (by intro z; cases z)), upd_ne q2]
          exact q3
        · rw [d2] at hq
          rw [hq, hu'] at e2
          cases Option.some.inj e2
          rw [upd_ne nDL1'.symm, upd_same]
          rfl
    · rintro σ H10 ⟨v9, ts, rfl, e10, d1, d2, d3⟩
      rw [List.length_map, List.take_length] at d1
      rw [List.length_map] at d2
      have LDx : LeadD H10 D chg (leadB secs cars n) (ldKv chg ts) := by
        refine ⟨ldKv_keys d2, fun u hu' => ?_⟩
        obtain ⟨j, hj⟩ := List.mem_iff_getElem?.mp hu'
        obtain ⟨t, ht⟩ : ∃ t, ts[j]? = some t := ⟨_, List.getElem?_eq_getElem (by rw [d2]; exact (List.getElem?_eq_some_iff.mp hj).1)⟩
        exact ⟨t, _, ldKv_get cn hj ht, d3 j t u ht hj, ldl_flat _ _ _ _, fun z => ldl_in secs cars n u z⟩
      refine ⟨_, rfl, _, rfl, _, rfl, D, chg, leadB secs cars n, n, o, ldKv chg ts, rfl, d1, LDx, cno, hin, cn, cl, cR, fun H11 lc kx s11 _ ⟨c, hc, e, hlc⟩ => ?_⟩
      exact k H11 (.ref lc) (x8.trans (ExtN.same (e10.trans s11))) ((A8.tb.ext e10).ext s11) (.inr ⟨lc, kx, c, rfl, hin, hc, e, hlc⟩)
end
end Sl

set_option Elab.async false
set_option linter.all false
set_option maxRecDepth 100000
set_option maxHeartbeats 2000000
namespace Sl
open PySem PySem.Spec L2 OwnR LamX
/-- a chain ends with its car -/
def EndOk (c : Ch) : Prop := ∃ pre, c.2 = pre ++ [c.1]
section
variable (chg : List Str) (lead : Str → Str → Bool) (m : Str)
theorem pth_ok : ∀ k, ∀ c ∈ pth chg lead m k, EndOk c ∧ c.2.length = k + 1
  | 0 => fun c hc => by
    rw [List.mem_singleton.mp hc]
    exact ⟨⟨[], rfl⟩, rfl⟩
  | k + 1 => fun c hc => by
    obtain ⟨d, hd, h⟩ := List.mem_flatMap.mp hc
    obtain ⟨v, hv, rfl⟩ := List.mem_map.mp h
    exact ⟨⟨d.2, rfl⟩, by show (d.2 ++ [v]).length = _; rw [List.length_append, (pth_ok k d hd).2]; rfl⟩
theorem ext2_len (c : Ch) : (ext2 chg lead c).length ≤ chg.length := by
  unfold ext2
  rw [List.length_map]
  exact List.length_filter_le _ _
theorem extP_len : ∀ xs : List Ch, (extP chg lead xs).length ≤ xs.length * chg.length
  | [] => Nat.zero_le _
  | c :: r => by
    have h1 := ext2_len chg lead c
    have h2 := extP_len r
    show (ext2 chg lead c ++ extP chg lead r).length ≤ _
    rw [List.length_append, List.length_cons, Nat.add_mul, Nat.one_mul]
    omega
theorem pth_len (h6 : chg.length ≤ 6) : ∀ k, (pth chg lead m k).length ≤ 6 ^ k
  | 0 => Nat.le_refl _
  | k + 1 => by
    have h1 := extP_len chg lead (pth chg lead m k)
    have h2 := pth_len h6 k
    show (extP chg lead (pth chg lead m k)).length ≤ _
    rw [Nat.pow_succ]
    exact Nat.le_trans h1 (Nat.mul_le_mul h2 h6)
theorem fst1_nd (hm : m ∉ chg) (k : Nat) : (keysC (fst1 chg lead m k)).Nodup := by
  have := bfs_nd chg lead m k
  rw [(bfsI chg lead m hm k).eq] at this
  exact (List.nodup_cons.mp this).2
theorem fst1_sub : ∀ k, ∀ c ∈ fst1 chg lead m k, c.1 ∈ chg
  | 0 => fun c hc => nomatch hc
  | k + 1 => fun c hc => by
    rcases List.mem_append.mp hc with hc | hc
    · exact fst1_sub k c hc
    · obtain ⟨d, hd, h⟩ := List.mem_flatMap.mp (dd_sub _ _ c hc).1
      obtain ⟨v, hv, rfl⟩ := List.mem_map.mp h
      exact (List.mem_filter.mp hv).1
theorem fst1_long : ∀ k, ∀ c ∈ fst1 chg lead m k, c.2.length ≤ k + 1
  | 0 => fun c hc => nomatch hc
  | k + 1 => fun c hc => by
    rcases List.mem_append.mp hc with hc | hc
    · have := fst1_long k c hc
      omega
    · have := (pth_ok chg lead m (k + 1) c (dd_sub _ _ c hc).1).2
      omega
theorem chainTo_mem {A : List Ch} (nd : (keysC A).Nodup) {c : Ch} (hc : c ∈ A) : chainTo A c.1 = some c.2 := by
  unfold chainTo
  induction A with
  | nil => cases hc
  | cons d r ih =>
    have nd' := List.nodup_cons.mp (show (d.1 :: keysC r).Nodup from nd)
    rw [List.find?_cons]
    rcases List.mem_cons.mp hc with rfl | hc
    · rw [decide_eq_true rfl]
      rfl
    · have ne : d.1 ≠ c.1 := fun z => nd'.1 (z ▸ List.mem_map.mpr ⟨c, hc, rfl⟩)
      rw [decide_eq_false ne]
      exact ih nd'.2 hc
/-- the first path of n turns is the program's chain -/
theorem fst1_found (hm : m ∉ chg) (hR : Reach chg lead m) {n : Nat} (hn : chg.length ≤ n) {o : Str} (ho : o ∈ chg) {kk : Nat} {c : Ch} (hc : c ∈ (bfs chg lead m kk).1) (e : c.1 = o) : c ∈ fst1 chg lead m n := by
  have hv := bfs_found chg lead m hm hR hn o ho
  have hk : o ∈ keysC (bfs chg lead m kk).1 := List.mem_map.mpr ⟨c, hc, e⟩
  have es := chain_same chg lead m hk hv
  have e1 := chainTo_mem (bfs_nd chg lead m kk) hc
  rw [e] at e1
  obtain ⟨d, hd, ed⟩ := List.mem_map.mp hv
  have ed : d.1 = o := ed
  have e2 := chainTo_mem (bfs_nd chg lead m n) hd
  rw [ed] at e2
  rw [e1, e2] at es
  have : c = d := Prod.ext (by rw [e, ed]) (Option.some.inj es)
  rw [(bfsI chg lead m hm n).eq] at hd
  rcases List.mem_cons.mp hd with z | hd
  · rw [z] at ed
    exact absurd ho (ed ▸ hm)
  · rw [this]
    exact hd
end
/-- paces fall along a chain -/
def Falls (cars : List Car) (c : Ch) : Prop := EndOk c ∧ (∀ x ∈ c.2, x ∈ names cars) ∧ ∀ (k : Nat) (a b : Str), c.2[k]? = some a → c.2[k + 1]? = some b → paceOf cars b < paceOf cars a
theorem bfs_falls {secs : List Sec} {cars : List Car} (CO : CarsOk cars) {m : Str} (hm : m ∈ names cars) (k : Nat) : ∀ c ∈ (bfs (chgL secs cars m) (leadB secs cars m) m k).1, Falls cars c := by
  refine (bfs_ind (chgL secs cars m) (leadB secs cars m) m (R := Falls cars) ⟨⟨[], rfl⟩, fun x hx => by rw [List.mem_singleton.mp hx]; exact hm, fun k a b h1 h2 => by simp at h2⟩ (fun c v hc hv hl => ?_) k).1
  obtain ⟨⟨pre, hp⟩, h2, h3⟩ := hc
  obtain ⟨s1, s2⟩ := leadB_slow CO hv hl
  have hvn : v ∈ names cars := by
    obtain ⟨d, hd, rfl⟩ := List.mem_map.mp hv
    exact List.mem_map.mpr ⟨d, (List.mem_filter.mp hd).1, rfl⟩
  refine ⟨⟨c.2, rfl⟩, fun x hx => ?_, fun k a b e1 e2 => ?_⟩
  · rcases List.mem_append.mp hx with hx | hx
    · exact h2 x hx
    · rw [List.mem_singleton.mp hx]
      exact hvn
  · have e1 : (c.2 ++ [v])[k]? = some a := e1
    rcases snoc_get (show (c.2 ++ [v])[k + 1]? = some b from e2) with z | ⟨z, rfl⟩
    · have := (List.getElem?_eq_some_iff.mp z).1
      rw [List.getElem?_append_left (by omega)] at e1
      exact h3 k a b e1 z
    · rw [List.getElem?_append_left (by omega), hp] at e1
      have hl : k = pre.length := by
        have := congrArg List.length hp
        rw [List.length_append] at this
        simp at this
        omega
      rw [hl] at e1
      have : c.1 = a := by simpa using e1
      rw [← this]
      exact s1
/-- a list of chains -/
def LvAt (H : Hp) (l : Addr) (xs : List Ch) : Prop := ∃ ts : List Addr, H l = some (.lst (ts.map V.ref)) ∧ ts.length = xs.length ∧ ∀ (i : Nat) (t : Addr) (c : Ch), ts[i]? = some t → xs[i]? = some c → t ≠ l ∧ H t = some (.lst (c.2.map V.str))
theorem LvAt.same {H H' : Hp} {l : Addr} {xs : List Ch} (h : LvAt H l xs) (e : Same H H') : LvAt H' l xs := by
  obtain ⟨ts, h1, h2, h3⟩ := h
  exact ⟨ts, e _ _ h1, h2, fun i t c e1 e2 => ⟨(h3 i t c e1 e2).1, e _ _ (h3 i t c e1 e2).2⟩⟩
theorem LvAt.keepD {H H' : Hp} {l d : Addr} {xs : List Ch} (h : LvAt H l xs) (isD : ∃ ks, H d = some (.dK ks)) (e : ∀ b o, H b = some o → b ≠ d → H' b = some o) : LvAt H' l xs := by
  obtain ⟨ts, h1, h2, h3⟩ := h
  obtain ⟨ks, hd⟩ := isD
  exact ⟨ts, e _ _ h1 (ne_of h1 hd (by intro q; cases q)), h2, fun i t c e1 e2 => ⟨(h3 i t c e1 e2).1, e _ _ (h3 i t c e1 e2).2 (ne_of (h3 i t c e1 e2).2 hd (by intro q; cases q))⟩⟩
theorem LvAt.push {H : Hp} {l t : Addr} {xs : List Ch} {ts : List Addr} (h1 : H l = some (.lst (ts.map V.ref))) (h2 : ts.length = xs.length) (h3 : ∀ (i : Nat) (t : Addr) (c : Ch), ts[i]? = some t → xs[i]? = some c → t ≠ l ∧ H t = some (.lst (c.2.map V.str))) {c : Ch} (n : t ≠ l) (ht : H t = some (.lst (c.2.map V.str))) :
    LvAt (upd H l (.lst (ts.map V.ref ++ [V.ref t]))) l (xs ++ [c]) := by
  refine ⟨ts ++ [t], by rw [upd_same, List.map_append]; rfl, by rw [List.length_append, List.length_append, h2]; rfl, fun i b e e1 e2 => ?_⟩
  have key : b ≠ l ∧ H b = some (.lst (e.2.map V.str)) := by
    rcases snoc_get e1 with e1 | ⟨hq, rfl⟩
    · have := (List.getElem?_eq_some_iff.mp e1).1
      rw [List.getElem?_append_left (by omega)] at e2
      exact h3 i b e e1 e2
    · rw [List.getElem?_append_right (by omega), hq, h2, Nat.sub_self] at e2
      have : c = e := by simpa using e2
      rw [← this]
      exact ⟨n, ht⟩
  exact ⟨key.1, by rw [upd_ne key.1]; exact key.2⟩
theorem ChD.ext {H H' : Hp} {d : Addr} {xs : List Ch} (h : ChD H d xs) (e : ExtN H H') : ChD H' d xs := by
  obtain ⟨ts, h1, h2, h3⟩ := h
  exact ⟨ts, e _ _ h1 (fun _ z => nomatch z), h2, fun i t c e1 e2 => e _ _ (h3 i t c e1 e2) fun _ z => nomatch z⟩
/-- a value put where it was -/
theorem put_same {kvs : List (Key × V)} {k : Key} {v : V} (nd : (kvs.map (·.1)).Nodup) (h : valV kvs k = some v) : putK kvs k v = kvs := by
  have hk : (kvs.any fun kv => decide (kv.1 = k)) = true := by
    cases q : kvs.any fun kv => decide (kv.1 = k) with
    | true => rfl
    | false =>
      have : kvs.find? (fun kv => decide (kv.1 = k)) = none := List.find?_eq_none.mpr fun x hx => by
        have := List.any_eq_false.mp q x hx
        exact this
      unfold valV at h
      rw [this] at h
      cases h
  unfold putK
  rw [if_pos hk]
  refine (List.map_congr_left fun kv hkv => ?_).trans (List.map_id kvs)
  by_cases e : kv.1 = k
  · rw [if_pos e]
    have : valV kvs kv.1 = some kv.2 := by
      clear h hk
      induction kvs with
      | nil => cases hkv
      | cons p r ih =>
        have nd' := List.nodup_cons.mp (show (p.1 :: r.map (·.1)).Nodup from nd)
        rcases List.mem_cons.mp hkv with rfl | hkv
        · exact valV_pos rfl
        · have ne : ¬ p.1 = kv.1 := fun z => nd'.1 (z ▸ List.mem_map.mpr ⟨kv, hkv, rfl⟩)
          rw [valV_neg ne]
          exact ih nd'.2 hkv
    rw [e, h] at this
    rw [Option.some.inj this]
    rfl
  · rw [if_neg e]
    rfl
theorem chK_nd {xs : List Ch} {ts : List Addr} (h : ts.length = xs.length) (nd : (keysC xs).Nodup) : ((chK xs ts).map (·.1)).Nodup := by
  rw [chK_fst h]
  exact List.Pairwise.map _ (fun a b n z => n (Sum.inr.inj z)) nd
/-- the dict after one more path -/
theorem ChD.first {H : Hp} {d t : Addr} {pre : List Ch} {xs : List Ch} (C : ChD H d (pre ++ dd (keysC pre) xs)) (nd : (keysC (pre ++ dd (keysC pre) xs)).Nodup) {c : Ch} (ht : H t = some (.lst (c.2.map V.str))) :
    ∃ kv o, H d = some (.dK kv) ∧ kv.length = (pre ++ dd (keysC pre) xs).length ∧ valV kv (Sum.inr c.1 : Key) = o ∧ ChD (upd H d (.dK (putK kv (Sum.inr c.1 : Key) (o.getD (.ref t))))) d (pre ++ dd (keysC pre) (xs ++ [c])) := by
  obtain ⟨ts, h1, h2, h3⟩ := C
  have hs := chK_some h2 c.1
  rw [dd_snoc]
  by_cases hin : c.1 ∈ keysC (pre ++ dd (keysC pre) xs)
  · rw [decide_eq_true hin] at hs
    obtain ⟨v, hv⟩ := Option.isSome_iff_exists.mp hs
    have hin' : c.1 ∈ keysC pre ∨ c.1 ∈ keysC (dd (keysC pre) xs) := by
      unfold keysC at hin ⊢
      rw [List.map_append] at hin
      exact List.mem_append.mp hin
    rw [if_pos hin', List.append_nil]
    refine ⟨_, _, h1, chK_len h2, hv, ?_⟩
    rw [show (some v).getD (.ref t) = v from rfl, put_same (chK_nd h2 nd) hv]
    exact ⟨ts, upd_same, h2, fun i b e e1 e2 => by rw [upd_ne (ne_of (h3 i b e e1 e2) h1 (by intro z; cases z))]; exact h3 i b e e1 e2⟩
  · rw [decide_eq_false hin] at hs
    have hv : valV (chK (pre ++ dd (keysC pre) xs) ts) (Sum.inr c.1 : Key) = none := by
      cases q : valV (chK (pre ++ dd (keysC pre) xs) ts) (Sum.inr c.1 : Key) with
      | none => rfl
      | some v => rw [q] at hs; cases hs
    have hin' : ¬ (c.1 ∈ keysC pre ∨ c.1 ∈ keysC (dd (keysC pre) xs)) := by
      unfold keysC at hin ⊢
      rw [List.map_append] at hin
      exact fun z => hin (List.mem_append.mpr z)
    rw [if_neg hin', ← List.append_assoc]
    obtain ⟨p1, p2⟩ := ChD.put h1 h2 h3 hin ht
    refine ⟨_, _, h1, chK_len h2, hv, ?_⟩
    rw [show (none : Option V).getD (.ref t) = .ref t from rfl, p1]
    exact p2
/-- the paces, as a dict of pairs -/
theorem merge_pace {cars : List Car} (nd : (names cars).Nodup) : mergeK [] (paceK cars) = paceK cars := by
  refine merge_new (paceK cars) [] ?_ fun k _ => rfl
  unfold paceK
  rw [List.map_map]
  have : (names cars).map (fun n => (Sum.inr n : Key)) = cars.map ((fun x : Key × V => x.1) ∘ fun c => ((Sum.inr c.name : Key), V.int c.pace)) := by
    unfold names
    rw [List.map_map]
    rfl
  rw [← this]
  exact List.Pairwise.map _ (fun a b n z => n (Sum.inr.inj z)) nd
/-- the cars that change, among the first j -/
def chgT (secs : List Sec) (cars : List Car) (n : Str) (j : Nat) : List Str := ((cars.take j).filter fun c => decide (c.name ≠ n) && !decide (tksL secs cars c.name = tksL secs (lessC cars n) c.name)).map (·.name)
theorem chgT_all (secs : List Sec) (cars : List Car) (n : Str) : chgT secs cars n cars.length = chgL secs cars n := by
  unfold chgT
  rw [List.take_length]
  rfl
theorem chgT_succ {secs : List Sec} {cars : List Car} {n : Str} {j : Nat} {c : Car} (h : cars[j]? = some c) : chgT secs cars n (j + 1) = chgT secs cars n j ++ (if c.name ≠ n ∧ tksL secs (lessC cars n) c.name ≠ tksL secs cars c.name then [c.name] else []) := by
  unfold chgT
  rw [tk1 h, List.filter_append, List.map_append]
  congr 1
  by_cases e1 : c.name = n
  · simp [e1]
  · by_cases e2 : tksL secs cars c.name = tksL secs (lessC cars n) c.name
    · simp [e1, e2]
    · have e3 : ¬ tksL secs (lessC cars n) c.name = tksL secs cars c.name := fun z => e2 z.symm
      simp [e1, e2, e3]
theorem chgT_len (secs : List Sec) (cars : List Car) (n : Str) (j : Nat) : (chgT secs cars n j).length ≤ j := by
  unfold chgT
  rw [List.length_map]
  refine Nat.le_trans (List.length_filter_le _ _) ?_
  rw [List.length_take]
  exact Nat.min_le_left _ _
theorem paired_ix {α β : Type} {F : α → β → Prop} : ∀ (l1 : List α) (l2 : List β), l1.length = l2.length → (∀ (i : Nat) (a : α) (b : β), l1[i]? = some a → l2[i]? = some b → F a b) → Paired F l1 l2
  | [], [], _, _ => .nil
  | [], _ :: _, h, _ => by simp at h
  | _ :: _, [], h, _ => by simp at h
  | a :: r, b :: q, h, f => .cons (f 0 a b rfl rfl) (paired_ix r q (by simpa using h) fun i x y e1 e2 => f (i + 1) x y (by simpa using e1) (by simpa using e2))
end Sl

set_option Elab.async false
set_option linter.all false
set_option maxRecDepth 100000
set_option maxHeartbeats 2000000
/-! Lambdas as values: made (with a default, or none), kept in lists, handed to a def that calls them, called. -/
namespace OwnR
open PySem PySem.Spec PyProof.Rows L2 LamX
/-- the text of a lambda; own: its one parameter, whose default is 0 -/
structure LamT where
  par : Arguments
  body : Expr
  scope : Scope
  own : Option Str
/-- at f: the lambda, its defaults at dV -/
def LamA (f : Addr) (q : Str) (cl : List (Str × Addr)) (T : LamT) (c' : Addr) (dV : Value) : HO :=
  .ext fun h => ∃ doc pm ctv : Value, h.get? f = some (PySem.W.kdv_obj "<lambda>" q T.par (.expr T.body) T.scope cl dV doc pm c' ctv)
theorem lamA_tbl {f c' : Addr} {q : Str} {cl : List (Str × Addr)} {T : LamT} {dV : Value} (ps : Array Value) : LamA f q cl T c' dV ≠ .tbl ps := fun z => by
  unfold LamA at z
  cases z
/-- a lambda of the maker (its name q, its cells cl) stands at f -/
def LamV (q : Str) (cl : List (Str × Addr)) (H : Hp) (f : Addr) (T : LamT) : Prop :=
  ∃ (c' : Addr) (dV : Value), H f = some (LamA f q cl T c' dV) ∧ H c' = some (CodeO c' q) ∧ ((T.own = none ∧ dV = .none) ∨ ∃ (a : Str) (t : Addr), T.own = some a ∧ dV = .ref t ∧ H t = some (.tup [.int 0]))
theorem LamV.ext {q : Str} {cl : List (Str × Addr)} {H H' : Hp} {f : Addr} {T : LamT} (h : LamV q cl H f T) (e : ExtN H H') : LamV q cl H' f T := by
  obtain ⟨c', dV, h1, h2, h3⟩ := h
  refine ⟨c', dV, e _ _ h1 lamA_tbl, e _ _ h2 codeO_ne, ?_⟩
  rcases h3 with h3 | ⟨a, t, h4, h5, h6⟩
  · exact .inl h3
  · exact .inr ⟨a, t, h4, h5, e _ _ h6 (fun _ z => nomatch z)⟩
/-- the parameters bind -/
def LamB (T : LamT) : Prop := match T.own with
  | none => ∀ (q : Str) (cl : List (Str × Addr)) (doc pm cv ctv : Value), bindArgs (PySem.W.kdv_fn "<lambda>" q T.par (.expr T.body) T.scope cl .none doc pm cv ctv) ⟨[], []⟩ = pure []
  | some a => ∀ (q : Str) (cl : List (Str × Addr)) (t : Addr) (doc pm cv ctv : Value), ∃ k : Option (Array Value) → Sem (List (Str × Value)),
      bindArgs (PySem.W.kdv_fn "<lambda>" q T.par (.expr T.body) T.scope cl (.ref t) doc pm cv ctv) ⟨[], []⟩ = (seqItems? (.ref t) >>= k) ∧ ∀ v : Value, k (some #[v]) = pure [(a, v)]
/-- its names: globals, the maker's cells, its parameter (no name of the maker's) -/
structure LamS2 (N : List Str) (sc : Scope) (T : LamT) : Prop where
  kind : T.scope.kind = .function
  co : T.scope.isCoroutine = false
  gen : T.scope.isGenerator = false
  cell : ∀ y ∈ T.scope.names, y.2 ≠ .cell
  loc : ∀ y ∈ T.scope.names, y.2 = .local → y.1 ∉ N
  free : ∀ y ∈ T.scope.names, y.2 = .free → sc.names.lookup y.1 = some .cell ∨ sc.names.lookup y.1 = some .free
  par : ∀ a, T.own = some a → T.scope.names.lookup a = some .local
def lamS2B (N : List Str) (sc : Scope) (T : LamT) : Bool :=
  decide (T.scope.kind = .function) && !T.scope.isCoroutine && !T.scope.isGenerator && (match T.own with | none => true | some a => decide (T.scope.names.lookup a = some .local)) &&
    T.scope.names.all fun y => !decide (y.2 = .cell) && (!decide (y.2 = .local) || !decide (y.1 ∈ N)) && (!decide (y.2 = .free) || decide (sc.names.lookup y.1 = some .cell) || decide (sc.names.lookup y.1 = some .free))
theorem lamS2_by {N : List Str} {sc : Scope} {T : LamT} (h : lamS2B N sc T = true) : LamS2 N sc T := by
  unfold lamS2B at h
  simp only [Bool.and_eq_true, Bool.or_eq_true, Bool.not_eq_true', decide_eq_true_eq, decide_eq_false_iff_not, List.all_eq_true] at h
  obtain ⟨⟨⟨⟨h1, h2⟩, h3⟩, h5⟩, h4⟩ := h
  refine ⟨h1, h2, h3, fun y hy => (h4 y hy).1.1, fun y hy e => ?_, fun y hy e => ?_, fun a e => ?_⟩
  · rcases (h4 y hy).1.2 with z | z
    · exact absurd e z
    · exact z
  · rcases (h4 y hy).2 with (z | z) | z
    · exact absurd e z
    · exact .inl z
    · exact .inr z
  · rw [e] at h5
    exact of_decide_eq_true h5
theorem LamS2.has {X : Cx} {T : LamT} (L : LamS2 X.N X.env.scope T) (ok : X.Ok) : ∀ y ∈ T.scope.names, y.2 = .free → ∃ c, X.env.cells.lookup y.1 = some c := fun y hy e => (L.free y hy e).elim (fun z => ok.has _ (.inl z)) fun z => ok.has _ (.inr z)
/-- the maker's name for its lambdas, the cells that a lambda gets -/
abbrev lq (X : Cx) : Str := X.env.qual ++ "<lambda>"
abbrev lcl (X : Cx) (T : LamT) : List (Str × Addr) := cloFrom X.env.cells T.scope.names []
section
variable {X : Cx} {pins : List (Addr × Obj)} {σ : L2.St} {H : Hp} {s : Shared}
/-- the function object is laid and known -/
theorem fn_laid {f c' : Addr} {T : LamT} {dV doc pm ctv : Value} {h' : Heap} {t' : Nat} (I : Inv X pins σ H { s with heap := h', toks := t' }) (hf : f = h'.objs.size) :
    Inv X pins σ (upd H f (LamA f (lq X) (lcl X T) T c' dV)) { s with heap := h'.push (PySem.W.kdv_obj "<lambda>" (lq X) T.par (.expr T.body) T.scope (lcl X T) dV doc pm c' ctv), toks := t' } := by
  subst hf
  have hg : (h'.push (PySem.W.kdv_obj "<lambda>" (lq X) T.par (.expr T.body) T.scope (lcl X T) dV doc pm c' ctv)).get? h'.objs.size = some (PySem.W.kdv_obj "<lambda>" (lq X) T.par (.expr T.body) T.scope (lcl X T) dV doc pm c' ctv) := Heap.get?_push_size _ rfl
  have new : ObjOk X.prog X.w (upd H h'.objs.size (LamA h'.objs.size (lq X) (lcl X T) T c' dV)) (h'.push (PySem.W.kdv_obj "<lambda>" (lq X) T.par (.expr T.body) T.scope (lcl X T) dV doc pm c' ctv)) h'.objs.size (LamA h'.objs.size (lq X) (lcl X T) T c' dV) :=
    ⟨⟨doc, pm, ctv, hg⟩, ⟨_, hg⟩, fun h1 h2 ⟨d, p, c, e⟩ k => ⟨d, p, c, k _ e⟩⟩
  exact I.laid (s := { s with heap := h', toks := t' }) (t' := t') (fun b o e => Heap.get?_push_of_some _ e) (Nat.le_refl _) new
/-- the lambda's object is made, its defaults at dV -/
theorem tail_makeV {T : LamT} {dV : Value} {Tb : List (Addr × Str)} {c P : Addr} {pos : Pos} {E : Value → Shared → Prop} {Q : Value → Shared → Prop} (I : Inv X pins σ H s) (TB : TabB X.base X.mg c P) (hcode : X.env.code = .ref c)
    (hm : (P, lq X) ∈ Tb) (hu : ∀ p ∈ Tb, p.1 = P → p.2 = lq X) (hT : Tabs Tb H) (hfree : ∀ y ∈ T.scope.names, y.2 = .free → ∃ c, X.env.cells.lookup y.1 = some c)
    (h : ∀ (f c' : Addr) (H1 : Hp) (s' : Shared), Inv X pins σ H1 s' → ExtN H H1 → Tabs Tb H1 → H1 f = some (LamA f (lq X) (lcl X T) T c' dV) → H1 c' = some (CodeO c' (lq X)) → Q (.ref f) s') :
    wpAny (model X.prog X.w) X.A (makeTail "<lambda>" (lq X) T.par (.expr T.body) T.scope X.env dV .none none pos pos.line) Q E s := by
  obtain ⟨ps, hP, ht, ha⟩ := hT _ hm
  have bP : s.heap.BuiltinsAt X.mg P := TB.bm.keeps I.bk
  have hP' : s.heap.get? P = some { cls := .none, data := .fields ps } := I.hok P _ hP
  cases hc : codeAmong pos ps.toList with
  | none =>
    refine PySem.W.kdv_makeTail (mg := X.mg) (c := c) (P := P) (ps := ps) (closure_ok hfree) I.ok.glob (I.mod.glob.keeps I.bk) hcode (TB.code.keeps I.bk) hP' ht hc TB.gP bP fun c' ctv doc h' tk hx hge hlt hrec htb => ?_
    obtain ⟨c2, oc, vs, t, e2, hoc, hd, hv⟩ := hrec
    cases e2
    have hsz : s.heap.objs.size ≤ h'.objs.size := Nat.le_trans hge (Nat.le_of_lt hlt)
    have nC : H c' = none := I.hok.fresh hge
    have I1 := inv_table (t' := tk) (more := #[rawInt pos.line, rawInt pos.col, .ref c']) (h' := h') I hP hx htb hge ⟨oc, vs, t, hoc, hd, hv⟩
    have hE : ExtN H (upd (upd H P (.tbl (ps ++ #[rawInt pos.line, rawInt pos.col, .ref c']))) c' (CodeO c' (lq X))) := fun b o e n => by
      rw [upd_ne (ne_of_none e nC), upd_ne (fun z => n ps (Option.some.inj (e.symm.trans (by rw [z]; exact hP))))]
      exact e
    have n1 : h'.objs.size ≠ c' := Nat.ne_of_gt hlt
    have nF : (upd (upd H P (.tbl (ps ++ #[rawInt pos.line, rawInt pos.col, .ref c']))) c' (CodeO c' (lq X))) h'.objs.size = none := by
      have n2 : h'.objs.size ≠ P := Nat.ne_of_gt (Nat.lt_of_lt_of_le (Heap.lt_size hP') hsz)
      rw [upd_ne n1, upd_ne n2]
      exact I.hok.fresh hsz
    have I2 := fn_laid (T := T) (c' := c') (dV := dV) (doc := doc) (pm := (X.mg "__name__").getD .none) (ctv := ctv) I1 rfl
    have eL : (ps ++ #[rawInt pos.line, rawInt pos.col, .ref c']).toList = ps.toList ++ [rawInt pos.line, rawInt pos.col, .ref c'] := by simp
    have T1 : Tabs Tb (upd (upd H P (.tbl (ps ++ #[rawInt pos.line, rawInt pos.col, .ref c']))) c' (CodeO c' (lq X))) := fun p hp => by
      by_cases hb : p.1 = P
      · rw [hu p hp hb, hb]
        refine ⟨_, by rw [upd_ne (ne_of_none hP nC), upd_same], by rw [eL]; exact PySem.TriplesOk_snoc _ _ _ _ ht, fun p' cv hcv => ?_⟩
        rw [eL] at hcv
        rcases among_app _ ht hcv with z | z
        · obtain ⟨c0, e1, e2⟩ := ha p' cv z
          exact ⟨c0, e1, hE _ _ e2 codeO_ne⟩
        · exact ⟨c', z, upd_same⟩
      · obtain ⟨ps', a1, a2, a3⟩ := hT p hp
        refine ⟨ps', by rw [upd_ne (ne_of_none a1 nC), upd_ne hb]; exact a1, a2, fun p' cv hcv => ?_⟩
        obtain ⟨c0, e1, e2⟩ := a3 p' cv hcv
        exact ⟨c0, e1, hE _ _ e2 codeO_ne⟩
    have sN : ∀ b o, (upd (upd H P (.tbl (ps ++ #[rawInt pos.line, rawInt pos.col, .ref c']))) c' (CodeO c' (lq X))) b = some o → (upd (upd (upd H P (.tbl (ps ++ #[rawInt pos.line, rawInt pos.col, .ref c']))) c' (CodeO c' (lq X))) h'.objs.size (LamA h'.objs.size (lq X) (lcl X T) T c' dV)) b = some o := fun b o e => by
      rw [upd_ne (ne_of_none e nF)]
      exact e
    exact h _ c' _ _ I2 (fun b o e n => sN _ _ (hE b o e n)) (T1.ext sN) upd_same (sN _ _ upd_same)
  | some cv =>
    obtain ⟨c', e, hco⟩ := ha pos cv hc
    subst e
    refine PySem.W.kdv_makeTailHit (mg := X.mg) (c := c) (P := P) (ps := ps) (closure_ok hfree) I.ok.glob (I.mod.glob.keeps I.bk) hcode (TB.code.keeps I.bk) hP' ht hc bP fun ctv doc h' tk hx hsz => ?_
    have I1 : Inv X pins σ H { s with heap := h', toks := tk } := I.kept hx
    have I2 := fn_laid (T := T) (c' := c') (dV := dV) (doc := doc) (pm := (X.mg "__name__").getD .none) (ctv := ctv) I1 rfl
    have nF : H h'.objs.size = none := I.hok.fresh hsz
    have sN : ∀ b o, H b = some o → (upd H h'.objs.size (LamA h'.objs.size (lq X) (lcl X T) T c' dV)) b = some o := fun b o e => by
      rw [upd_ne (ne_of_none e nF)]
      exact e
    exact h _ c' _ _ I2 (ExtN.of sN) (hT.ext sN) upd_same (sN _ _ hco)
/-- the reading of a lambda: a new one stands there -/
def tLamV (Tb : List (Addr × Str)) (q : Str) (cl : List (Str × Addr)) (T : LamT) : TE := fun _ H Q => Tabs Tb H ∧ ∀ (H1 : Hp) (f : Addr), ExtN H H1 → Tabs Tb H1 → LamV q cl H1 f T → Q (.ref f) H1
/-- lambda: body -/
theorem pe_lamV0 {T : LamT} {Tb : List (Addr × Str)} {c P : Addr} {pos : Pos} (TB : TabB X.base X.mg c P) (hcode : X.env.code = .ref c) (hm : (P, lq X) ∈ Tb) (hu : ∀ p ∈ Tb, p.1 = P → p.2 = lq X) (L : LamS2 X.N X.env.scope T)
    (hw : T.own = none) (hdef : defaultsOf T.par X.env = ([], []) := by rfl) : PE X (.Lambda T.par T.body T.scope pos) (tLamV Tb (lq X) (lcl X T) T) := by
  refine ⟨fun pins s σ H Q I h => ?_⟩
  obtain ⟨hT, h⟩ := h
  refine PySem.W.kla_eval hdef ?_
  rw [makeFunction_eq]
  simp only [List.zip_nil_right, List.filterMap_nil, List.isEmpty_nil, if_true, pure_bind]
  exact tail_makeV I TB hcode hm hu hT (L.has I.ok) fun f c' H1 s' I1 e1 T1 h1 h2 => ⟨.ref f, H1, I1, rfl, h H1 f e1 T1 ⟨c', .none, h1, h2, .inl ⟨hw, rfl⟩⟩⟩
/-- lambda a=0: body -/
theorem pe_lamD0 {T : LamT} {Tb : List (Addr × Str)} {c P : Addr} {pos p0 : Pos} {j : Nat} {a : Str} (TB : TabB X.base X.mg c P) (hcode : X.env.code = .ref c) (hm : (P, lq X) ∈ Tb) (hu : ∀ p ∈ Tb, p.1 = P → p.2 = lq X) (L : LamS2 X.N X.env.scope T)
    (hw : T.own = some a) (hd : T.par.defaults = [.Constant (.int 0) j p0]) (hk : T.par.kw_defaults = []) : PE X (.Lambda T.par T.body T.scope pos) (tLamV Tb (lq X) (lcl X T) T) := by
  refine ⟨fun pins s σ H Q I h => ?_⟩
  obtain ⟨hT, h⟩ := h
  refine PySem.W.kdv_lam (by rw [hd]; rfl) hk ?_
  rw [hd]
  have p0 := (pe_int (X := X) (i := 0) (j := j) (pos := p0)).run pins s σ H (fun v H1 => v = .int 0 ∧ H1 = H) I ⟨rfl, rfl⟩
  refine PySem.W.kdv_all1 (wpAny_mono p0 (fun v s1 ⟨x, H1, I1, r1, ex, eH⟩ => PySem.W.kdv_all0 ?_) fun _ _ z => z)
  subst ex eH
  rw [makeFunction_eq]
  simp only [List.zip_nil_right, List.filterMap_nil, List.isEmpty_nil, List.isEmpty_cons, if_true, pure_bind, Bool.false_eq_true, if_false]
  refine wpAny_bind (wpAny_newTextTuple ?_)
  have sz : s1.heap.objs.size ≤ s1.heap.objs.size := Nat.le_refl _
  have hg : (s1.heap.push (PySem.W.kdv_tup [v])).get? s1.heap.objs.size = some (PySem.W.kdv_tup [v]) := Heap.get?_push_size _ rfl
  have I2 : Inv X pins σ (upd H1 s1.heap.objs.size (.tup [.int 0])) { s1 with heap := s1.heap.push (PySem.W.kdv_tup [v]), toks := s1.toks } :=
    I1.laid (t' := s1.toks) (fun b o e => Heap.get?_push_of_some _ e) sz ⟨by show 1 ≤ sizeLine; decide, [v], .cons r1 .nil, ⟨_, hg, rfl, _, rfl⟩⟩
  have nF : H1 s1.heap.objs.size = none := I1.hok.fresh sz
  have sN : ∀ b o, H1 b = some o → (upd H1 s1.heap.objs.size (.tup [.int 0])) b = some o := fun b o e => by
    rw [upd_ne (ne_of_none e nF)]
    exact e
  exact tail_makeV I2 TB hcode hm hu (hT.ext sN) (L.has I.ok) fun f c' H3 s' I3 e3 T3 h1 h2 => ⟨.ref f, H3, I3, rfl, h H3 f ((ExtN.of sN).trans e3) T3 ⟨c', _, h1, h2, .inr ⟨a, _, hw, rfl, e3 _ _ upd_same (fun _ z => nomatch z)⟩⟩⟩
theorem pe_lamV {par : Arguments} {body : Expr} {scope : Scope} {Tb : List (Addr × Str)} {c P : Addr} {pos : Pos} (TB : TabB X.base X.mg c P) (hcode : X.env.code = .ref c) (hm : (P, lq X) ∈ Tb) (hu : ∀ p ∈ Tb, p.1 = P → p.2 = lq X) (L : LamS2 X.N X.env.scope ⟨par, body, scope, none⟩)
    (hdef : defaultsOf par X.env = ([], []) := by rfl) : PE X (.Lambda par body scope pos) (tLamV Tb (lq X) (lcl X ⟨par, body, scope, none⟩) ⟨par, body, scope, none⟩) := pe_lamV0 (T := ⟨par, body, scope, none⟩) TB hcode hm hu L rfl hdef
theorem pe_lamD {par : Arguments} {body : Expr} {scope : Scope} {Tb : List (Addr × Str)} {c P : Addr} {pos p0 : Pos} {j : Nat} {a : Str} (TB : TabB X.base X.mg c P) (hcode : X.env.code = .ref c) (hm : (P, lq X) ∈ Tb) (hu : ∀ p ∈ Tb, p.1 = P → p.2 = lq X) (L : LamS2 X.N X.env.scope ⟨par, body, scope, some a⟩)
    (hd : par.defaults = [.Constant (.int 0) j p0] := by rfl) (hk : par.kw_defaults = [] := by rfl) : PE X (.Lambda par body scope pos) (tLamV Tb (lq X) (lcl X ⟨par, body, scope, some a⟩) ⟨par, body, scope, some a⟩) := pe_lamD0 (T := ⟨par, body, scope, some a⟩) TB hcode hm hu L rfl hd hk
end
end OwnR

set_option Elab.async false
set_option linter.all false
set_option maxRecDepth 100000
set_option maxHeartbeats 2000000
/-! Lambdas that stand as values: called, and handed to a def that calls them. -/
namespace OwnR
open PySem PySem.Spec PyProof.Rows L2 LamX
section
variable {X : Cx} {pins : List (Addr × Obj)} {σ : L2.St} {H HZ : Hp} {s s1 : Shared}
/-- the lambda's context, entered at s1 from the frames outer; its maker stood so at s -/
theorem lam_startV {A : Around} {outer : List Env} {E : XK} {T : LamT} {f c' : Addr} {h₁ : Heap} {tk : Nat} {bs : List (Str × Value)} (I : Inv X pins σ H s) (L : LamS2 X.N X.env.scope T) (e0 : Env0 X.prog X.w X.K X.mg X.base A outer s1 HZ) (hd : A.handled = none)
    (un : Un (frs X.stack) [] H HZ s.heap s1.heap) (ns : h₁.Ns s1.heap.objs.size fun y => bs.reverse.lookup y) (kp : ∀ b o, s1.heap.get? b = some o → h₁.get? b = some o) :
    Inv (lamCx X A outer s1 HZ E T.scope f c') [] σ HZ { s1 with heap := h₁, toks := tk } := by
  have hasC := L.has I.ok
  have up : ∀ {y c}, (lcl X T).lookup y = some c → X.env.cells.lookup y = some c := fun {y c} e => by
    rcases cloFrom_mem (PySem.mem_of_lookup e) with m | ⟨g1, g2⟩
    · exact absurd m (by simp)
    · obtain ⟨d, hcd⟩ := hasC _ g1 rfl
      have hcd : X.env.cells.lookup y = some d := hcd
      rw [hcd] at g2
      rw [hcd, g2]
      rfl
  have down : ∀ {y}, T.scope.names.lookup y = some .free → ∃ c, (lcl X T).lookup y = some c := fun {y} hl => mem_lookup (cloFrom_has (cells := X.env.cells) (acc := []) (show (y, NameKind.free) ∈ T.scope.names from PySem.mem_of_lookup hl))
  have stays : ∀ {c : Addr} {v : Option Value}, H c = none → s.heap.IsCell c v → h₁.IsCell c v := fun {c v} n ⟨o, ho, hdt⟩ =>
    let ⟨sl, q⟩ := un.any ho n (by simp)
    ⟨{ o with slots := sl }, kp _ _ q, hdt⟩
  have no : ∀ b : Addr, ¬ b ∈ (lamCx X A outer s1 HZ E T.scope f c').ex := fun b z => nomatch (show b ∈ ([] : List Addr) from z)
  exact
    { ok :=
        { mod := e0.mod, kind := L.kind, glob := rfl, blt := rfl, above := Nat.le_refl _
          inj := fun y z c e1 e2 => I.ok.inj y z c (up e1) (up e2)
          has := fun y hy => by
            rcases (show T.scope.names.lookup y = some .cell ∨ T.scope.names.lookup y = some .free from hy) with q | q
            · exact absurd rfl (L.cell _ (PySem.mem_of_lookup q))
            · exact down q
          cab := fun y c z => nomatch (show false = true from z)
          hd := fun _ => hd, frames := Around.frames_deeper e0.frames, stk := .inr ⟨rfl, rfl⟩
          exf := fun b z => absurd z (no b), bs := e0.bs, bsz := e0.bsz, noex := fun b _ _ => no b, exfs := fun b z => absurd z (no b), funs := e0.funs, frf := e0.frf }
      os := rfl, bare := e0.bare, base := Un.kept kp
      loc := ⟨_, ns, fun i y v e1 e2 e3 => by
        rcases (show Vis T.scope y from e3) with k | k | k
        · exact absurd (List.mem_of_getElem? (show X.N[i]? = some y from e1)) (L.loc _ (PySem.mem_of_lookup k) rfl)
        · exact absurd rfl (L.cell _ (PySem.mem_of_lookup k))
        · obtain ⟨m, hn, hl⟩ := I.loc
          have vis := L.free _ (PySem.mem_of_lookup k) rfl
          obtain ⟨u, r, q⟩ := hl i y v e1 e2 (vis.elim (fun z => .inr (.inl z)) fun z => .inr (.inr z))
          obtain ⟨c2, h2⟩ := down k
          refine ⟨u, r, .inr ⟨.inr k, c2, h2, ?_⟩⟩
          rcases q with ⟨k', _⟩ | ⟨_, c3, e', z⟩
          · have k' : X.env.scope.names.lookup y = some .local := k'
            rcases vis with k2 | k2
            · rw [show X.env.scope.names.lookup y = _ from k2] at k'; cases k'
            · rw [show X.env.scope.names.lookup y = _ from k2] at k'; cases k'
          · have e'' := e'.symm.trans (up h2)
            cases e''
            exact stays (I.freeC y _ e') z⟩
      cell := fun y c e => let ⟨w', z⟩ := I.cell y c (up e); ⟨w', stays (I.freeC y c (up e)) z⟩
      free := e0.hok.fresh (Nat.le_refl _)
      freeC := fun y c e => by
        obtain ⟨v, o, ho, _⟩ := I.cell y c (up e)
        exact un.free c o ho (I.freeC y c (up e)) (by simp)
      pin := fun q hq => nomatch (show q ∈ ([] : List (Addr × Obj)) from hq)
      hok := e0.hok.kept kp, len := I.len }
/-- what the lambda's body reads, in its own context -/
def LamPE (X : Cx) (T : LamT) (k : Nat) (t : XK → TE) : Prop := ∀ (A : Around) (outer : List Env) (s : Shared) (H : Hp) (E : XK) (f c' : Addr), Room k (A.deeper (lamEnv X T.scope s.heap.objs.size f c')) → PE (lamCx X A outer s H E T.scope f c') T.body (t E)
/-- f() at s1; its maker stood so at s -/
theorem lam_run {A : Around} {outer : List Env} {E : XK} {T : LamT} {f : Addr} {k : Nat} {t : XK → TE} {Q : VK} (I : Inv X pins σ H s) (L : LamS2 X.N X.env.scope T) (B : LamB T) (e0 : Env0 X.prog X.w X.K X.mg X.base A outer s1 HZ) (hr : Room (k + 1) A)
    (un : Un (frs X.stack) [] H HZ s.heap s1.heap) (hb : LamPE X T k t) (hv : LamV (lq X) (lcl X T) HZ f T) (h : t E σ HZ Q) :
    codeAny (model X.prog X.w) A (.call (.ref f) ⟨[], []⟩) (L2.CR (L2.CX X.prog X.w) outer X.prog X.w HZ s1 Q E) s1 := by
  obtain ⟨c', dV, hf, hc, hD⟩ := hv
  obtain ⟨⟨doc, pm, ctv, of⟩, _, _⟩ := e0.hok f _ hf
  obtain ⟨⟨oc, vs, tq, hoc, hdc, hvc⟩, _, _⟩ := e0.hok c' _ hc
  have lim : s1.heap.NoLimit := e0.mod.nolimit.keeps fun b o e => (e0.bs b o e).1
  refine PySem.W.kla_callFunE hr.depth of rfl L.co L.gen rfl ⟨c', oc, vs, tq, rfl, hoc, hdc, hvc⟩ ?_
  have go : ∀ (bs : List (Str × Value)), (∀ y ∈ bs, T.scope.names.lookup y.1 = some .local) →
      wpAny (model X.prog X.w) A.in1 (newFunctionEnv T.scope mainGlobals (lcl X T) bs (lq X ++ ".<locals>.") (some f) (.ref c') none builtinsNs)
        (fun env s₂ => s₂.heap.NoLimit ∧ codeAny (model X.prog X.w) A (.expr T.body env) (L2.CR (L2.CX X.prog X.w) outer X.prog X.w HZ s1 Q E) s₂) (fun e s' => L2.CR (L2.CX X.prog X.w) outer X.prog X.w HZ s1 Q E (.error e) s') s1 := fun bs hbs => by
    refine wpAny_newFunctionEnv L.cell hbs (fun h₁ hns hsb => ⟨lim.fresh _ hsb, ?_⟩) L.kind
    show codeAny _ _ (.expr T.body (lamEnv X T.scope s1.heap.objs.size f c')) _ _
    have kp : ∀ b o, s1.heap.get? b = some o → h₁.get? b = some o := fun b o e => hsb.extBut b o (Nat.ne_of_lt (Heap.lt_size e)) (Heap.get?_push_of_some _ e)
    have J := lam_startV (E := E) (f := f) (c' := c') (tk := s1.toks + bs.length) I L e0 hr.hd un hns kp
    exact PySem.W.kla_codeExpr (wpAny_mono ((hb A outer s1 HZ E f c' (hr.deeper _)).run [] _ _ HZ Q J h) (fun v s' hq => let ⟨w', H', J', rv, q⟩ := hq; ⟨w', H', J'.os, J'.bare, J'.base, J'.hok, rv, q⟩) fun e s' hq => hq)
  unfold LamB at B
  rcases hD with ⟨ho, rfl⟩ | ⟨a, ta, ho, rfl, hta⟩
  · rw [ho] at B
    rw [B]
    exact wpAny_pure (go [] fun y hy => nomatch hy)
  · rw [ho] at B
    obtain ⟨k', b1, b2⟩ := B (lq X) (lcl X T) ta doc pm (.ref c') ctv
    obtain ⟨_, its, ri, oT, hoT, hcl, n, hdT⟩ := (show ObjOk X.prog X.w HZ s1.heap ta (.tup [.int 0]) from e0.hok ta _ hta)
    cases ri with
    | @cons _ v _ _ rv rn =>
      cases rn
      refine BindsTo.of_defaults (fd := PySem.W.kdv_fn "<lambda>" (lq X) T.par (.expr T.body) T.scope (lcl X T) (.ref ta) doc pm (.ref c') ctv) (binds := [(a, v)]) rfl hoT hdT b1 (b2 v) _ _ _ _ ?_
      refine go [(a, v)] fun y hy => ?_
      rw [List.mem_singleton.mp hy]
      exact L.par a ho
end
end OwnR
namespace OwnR
open PySem PySem.Spec PyProof.Rows L2 LamX
/-- the def that calls what it got (a: its parameter); TT: what it makes of the lambda's reading -/
def GivesV (P : Program) (w : World) (K : PySem.W.Frag) (mg : Str → Option Value) (base : Heap) (A : Around) (stack : List Env) (Ng : List Str) (x : Str) (sg : Scope) (g : Addr) (cdg : Value) (bg : List Stmt) (a : Str) (TT : (XK → Hp → VK → Prop) → Hp → VK → Prop) : Prop :=
  ∀ (f : Addr) (s : Shared) (H : Hp) (Q : VK) (Held : Hp → Prop) (tl : XK → Hp → VK → Prop),
    (∀ (W : WX) (pn : List (Addr × Obj)) (xe : Value → Shared → Prop) (E : XK) (p1 p2 : Pos), Takes ((cxOf L2.CX0 P w K mg base Ng x sg g cdg A stack s H L2.E0).tr pn xe) W → (∀ cls d σ' H', σ'.length = Ng.length → E cls d H' → W cls d σ' H') →
      PE ((cxOf L2.CX0 P w K mg base Ng x sg g cdg A stack s H L2.E0).tr pn xe) (.Call (.Name a p1) [] [] p2) (fun σZ HZ Q => σZ[0]? = some (some (.ref f)) ∧ Held HZ ∧ tl E HZ Q)) → Held H → TT tl H Q →
    ∃ t, PSs (cxOf L2.CX0 P w K mg base Ng x sg g cdg A stack s H L2.E0).nox bg t ∧ t { nx := fun _ H' => Q .non H', rt := Q } (L2.start Ng [.ref f]) H
/-- what is told of the def that calls -/
structure Teller (K : PySem.W.Frag) (mg : Str → Option Value) (x a : Str) (g : Addr) (Ng : List Str) (bg : List Stmt) (sg : Scope) (cdv : Value) : Prop where
  mgx : mg x = some (.ref g)
  k : PySem.W.keepIn K (.ref g) = true
  lk : ∃ (oc : Value) (od : Option Addr) (pg : Arguments) (dV kV doc pm ct : Value) (an : Option Addr) (osl : Array (Option Value)), K.lookup g = some ⟨oc, od, .func (PySem.W.fnOf x x pg bg sg dV kV doc pm an cdv ct), osl⟩ ∧ L2.Binds K (PySem.W.fnOf x x pg bg sg dV kV doc pm an cdv ct) [a] []
  cd : PySem.W.codeIn K cdv x = true
  sc : FnScope Ng [a] sg
  n0 : Ng[0]? = some a
  vis : Vis sg a
section
variable {X : Cx} {pins : List (Addr × Obj)} {σ : L2.St} {H : Hp} {s : Shared}
/-- told(f), called where the maker stands at s -/
theorem told_run {x a : Str} {g f : Addr} {Ng : List Str} {bg : List Stmt} {sg : Scope} {cdv : Value} {k : Nat} {T : LamT} {t : XK → TE} {TT : (XK → Hp → VK → Prop) → Hp → VK → Prop} {Q : VK} (I : Inv X pins σ H s) (W : Teller X.K X.mg x a g Ng bg sg cdv)
    (hG : GivesV X.prog X.w X.K X.mg X.base X.A X.stack Ng x sg g cdv bg a TT) (hr : Room (k + 2) X.A) (L : LamS2 X.N X.env.scope T) (B : LamB T) (hb : LamPE X T k t) (hv : LamV (lq X) (lcl X T) H f T) (h : TT (fun E H' Q' => t E σ H' Q') H Q)
    (hd : (a == ("__debug__" : Str)) = false) (hcd : (a == ("__classdict__" : Str)) = false) :
    codeAny (model X.prog X.w) X.A (.call (.ref g) ⟨[.ref f], []⟩) (L2.CR L2.CX0 X.stack X.prog X.w H s Q L2.E0) s := by
  obtain ⟨oc, od, pg, dV, kV, doc, pm, ct, an, osl, lk, hbind⟩ := W.lk
  refine run_ofS (N := Ng) (ps := [a]) (us := [.ref f]) (vs := [.ref f]) lk W.cd W.sc hr I.env0 (hbind s [.ref f] I.kIn rfl) (.cons rfl .nil) rfl fun hr' => ?_
  have act : ∀ (Wx : WX) (pn : List (Addr × Obj)) (xe : Value → Shared → Prop) (E : XK) (p1 p2 : Pos), Takes ((cxOf L2.CX0 X.prog X.w X.K X.mg X.base Ng x sg g cdv X.A X.stack s H L2.E0).tr pn xe) Wx → (∀ cls d σ' H', σ'.length = Ng.length → E cls d H' → Wx cls d σ' H') →
      PE ((cxOf L2.CX0 X.prog X.w X.K X.mg X.base Ng x sg g cdv X.A X.stack s H L2.E0).tr pn xe) (.Call (.Name a p1) [] [] p2) (fun σZ HZ Q => σZ[0]? = some (some (.ref f)) ∧ LamV (lq X) (lcl X T) HZ f T ∧ t E σ HZ Q) := by
    intro Wx pn xe E p1 p2 tk hW
    refine ⟨fun pinsZ sZ σZ HZ Q IZ hh => ?_⟩
    obtain ⟨hs, hvZ, ht⟩ := hh
    refine wpAny_Call_Name_kw (thn ((pe_var (pos := p1) (i := 0) W.n0 W.vis hd hcd).run pinsZ sZ σZ HZ (fun v H1 => v = .ref f ∧ H1 = HZ) IZ ⟨.ref f, hs, rfl, rfl⟩) fun u s2 ⟨v, H2, I2, r2, ev, eH⟩ => ?_)
    subst ev eH
    obtain rfl : u = Value.ref f := r2
    obtain ⟨c', dV', hf, _⟩ := id hvZ
    obtain ⟨⟨doc', pm', ctv', of⟩, _, _⟩ := I2.hok f _ hf
    refine PySem.W.callWith_F0 ⟨_, _, _, _, of⟩ ?_
    have rc := lam_run (E := E) (Q := Q) I L B I2.env0 hr' I2.base hb hvZ ht
    refine wpAny_call (codeAny_mono rc fun r s' hq => ?_)
    cases r with
    | error e => exact tk e s' (XE.of_call I2 (fun cls d H' h => hW cls d σZ H' I2.len h) hq)
    | ok fl =>
      cases fl with
      | ret u => exact I2.after hq
      | next => exact False.elim hq
      | brk => exact False.elim hq
      | cont => exact False.elim hq
  obtain ⟨t', ht', hq'⟩ := hG f s H Q (fun HZ => LamV (lq X) (lcl X T) HZ f T) (fun E H' Q' => t E σ H' Q') act hv h
  exact ⟨t', ht'.nox, hq'⟩
/-- told(e), e a lambda's value -/
def tTold (X : Cx) (k : Nat) (TT : (XK → Hp → VK → Prop) → Hp → VK → Prop) (te : TE) : TE := fun σ H Q => te σ H fun y H1 => ∃ (f : Addr) (T : LamT) (t : XK → TE), y = .ref f ∧ LamS2 X.N X.env.scope T ∧ LamB T ∧ LamPE X T k t ∧ LamV (lq X) (lcl X T) H1 f T ∧ TT (fun E H' Q' => t E σ H' Q') H1 Q
theorem pe_told {x a : Str} {g : Addr} {Ng : List Str} {bg : List Stmt} {sg : Scope} {cdv : Value} {k : Nat} {TT : (XK → Hp → VK → Prop) → Hp → VK → Prop} {e : Expr} {te : TE} {p pos : Pos} (W : Teller X.K X.mg x a g Ng bg sg cdv) (hg : Gl X x)
    (hG : GivesV X.prog X.w X.K X.mg X.base X.A X.stack Ng x sg g cdv bg a TT) (hr : Room (k + 2) X.A) (he : PE X e te) (hdb : (x == ("__debug__" : Str)) = false := by decide) (hd : (a == ("__debug__" : Str)) = false := by decide) (hcd : (a == ("__classdict__" : Str)) = false := by decide)
    (h1 : starEach [e] X.env = (false, eval e X.env) :: starEach [] X.env := by rfl) (h2 : (backTo pos (starEach [] X.env)).any (·.1) = false := by rfl) :
    PE X (.Call (.Name x p) [e] [] pos) (tTold X k TT te) := by
  refine ⟨fun pins s σ H Q I h => ?_⟩
  have ha : PA X [e] (tCons te tNil) := pa_cons he pa_nil h1
  refine wpAny_Call_Name_kw (ld_glob I hg W.mgx ?_ hdb)
  refine PySem.W.callWith_K (h₀ := X.base) I.ok.mod.kin W.k (thn (ha.run pos pins s σ H (fun vs H1 => ∃ (f : Addr) (T : LamT) (t : XK → TE), vs = [.ref f] ∧ LamS2 X.N X.env.scope T ∧ LamB T ∧ LamPE X T k t ∧ LamV (lq X) (lcl X T) H1 f T ∧ TT (fun E H' Q' => t E σ H' Q') H1 Q) I ?_) fun us s1 hs => ?_) h1 h2
  · show te σ H _
    have key : ∀ (Q1 Q2 : VK), Q1 = Q2 → te σ H Q1 → te σ H Q2 := fun _ _ z y => z ▸ y
    refine key _ _ (funext fun y => funext fun H1 => propext ⟨fun ⟨f, T, t, e, r⟩ => ⟨f, T, t, by rw [e], r⟩, fun ⟨f, T, t, e, r⟩ => ⟨f, T, t, by injection e, r⟩⟩) h
  · obtain ⟨vs, H1, I1, r, f, T, t, rfl, L, B, hb, hv, hT⟩ := hs
    obtain ⟨u, rfl, ru⟩ := r.one
    obtain rfl : u = Value.ref f := ru
    refine ⟨I1.kIn, wpAny_call (codeAny_mono (told_run I1 W hG hr L B hb hv hT hd hcd) fun r s2 hq => ?_)⟩
    cases r with
    | error e => exact (show False from hq).elim
    | ok fl =>
      cases fl with
      | ret u => exact I1.after hq
      | next => exact False.elim hq
      | brk => exact False.elim hq
      | cont => exact False.elim hq
end
end OwnR

set_option Elab.async false
set_option linter.all false
set_option maxRecDepth 100000
set_option maxHeartbeats 2000000
/-! Caught errors of own classes, with a dict of their own or without one. -/
namespace OwnR
open PySem PySem.Spec PyProof.Rows L2 LamX
/-- what an own class of errors says of itself -/
structure ErrC (K : PySem.W.Frag) (C : Addr) : Prop where
  cl : (PySem.W.clsIn K C).isSome = true
  ga : PySem.W.findIn K (.ref C) "__getattribute__" = some (some (.builtin "BaseException.__getattribute__"))
  gg : PySem.W.findIn K (.ref C) "__getattr__" = some none
  sub : PySem.W.subIn K (.ref C) (.type "BaseException") = some true
  hd : PySem.W.hasDictIn K C = true
  cat : PySem.W.findIn K (.ref C) "__class__" = some (some (.builtin "object.__class__"))
  sp : PySem.W.specialIn K (.builtin "object.__class__") "__get__" = some (some (.builtin "getset_descriptor.__get__"))
  tk : PySem.W.takesIn K (.builtin "object.__class__") = some true
  mro : PySem.W.mroIn K C (.type "object") = some true
  ix : PySem.W.findIn K (.ref C) "index" = some none
  nm : PySem.W.findIn K (.ref C) "name" = some none
theorem ErrC.xf {K : PySem.W.Frag} {C : Addr} (h : ErrC K C) : XfC K C := ⟨h.ga, h.gg, h.sub, h.hd⟩
/-- the error's own dict, if it has one, is known -/
def DictK (H : Hp) (d : Option Addr) : Prop := d = none ∨ ∃ dd fs, d = some dd ∧ H dd = some (.xd fs)
theorem DictK.ext {H H' : Hp} {d : Option Addr} (h : DictK H d) (e : ExtN H H') : DictK H' d := by
  rcases h with h | ⟨dd, fs, h1, h2⟩
  · exact .inl h
  · exact .inr ⟨dd, fs, h1, e _ _ h2 (fun _ z => nomatch z)⟩
/-- isinstance(e, c), e the error that the suite holds -/
def rIsV (K : PySem.W.Frag) (D a : Addr) (d : Option Addr) : List V → Hp → VK → Prop := fun xs H Q => ∃ (c : V) (cv : Value) (b : Bool), xs = [.ref a, c] ∧ (∀ u, RelV c u → u = cv) ∧ PySem.W.kitOne K (.ref D) cv = some b ∧ DictK H d ∧ Q (.bl b) H
theorem call_isV {X : Cx} {a D : Addr} {d : Option Addr} {oe : Obj} {pn : List (Addr × Obj)} (C : ErrC X.K D) (hz : Zc (.ref D) d oe) (hf : ∃ vs, oe.data = .fields vs) : CallR (X.suite a ((a, oe) :: pn)) (.builtin "isinstance") (rIsV X.K D a d) := by
  intro pins s σ H xs us Q I r h
  obtain ⟨c, cv, b, rfl, hcv, e, hd, q⟩ := h
  obtain ⟨u1, ur, rfl⟩ : ∃ u1 ur, us = u1 :: ur := by cases r; exact ⟨_, _, rfl⟩
  cases r with
  | cons rx rr =>
    obtain ⟨u2, rfl⟩ : ∃ u2, ur = [u2] := by
      cases rr with
      | cons _ rr => cases rr; exact ⟨_, rfl⟩
    cases rr with
    | cons rt _ =>
      cases rx
      have ec := hcv _ rt
      subst ec
      obtain ⟨hget, _⟩ := I.pin (a, oe) (List.mem_append.mpr (.inl List.mem_cons_self))
      obtain ⟨vs, hv⟩ := hf
      obtain ⟨oc, od, oda, osl⟩ := oe
      obtain ⟨h1, h2⟩ := hz
      dsimp only at h1 h2 hv
      subst h1 h2 hv
      rcases hd with hd | ⟨dd, fs, hd, hdd⟩
      · subst hd
        exact PySem.W.kia_one (PySem.W.kitx_exc (od := none) C.cl C.ga C.gg C.sub C.cat C.sp C.tk C.mro) I.kIn ⟨hget, rfl, rfl, trivial⟩ e (fun z => nomatch z) fun tk => ⟨.bl b, H, I.kept (t' := tk) fun _ _ z => z, rfl, q⟩
      · subst hd
        obtain ⟨mA, hns, _⟩ := (show ObjOk X.prog X.w H s.heap dd (.xd fs) from I.hok dd _ hdd)
        obtain ⟨o1, ho1, _⟩ := lookIn_ns hns
        exact PySem.W.kia_one (PySem.W.kitx_exc (od := some o1) C.cl C.ga C.gg C.sub C.cat C.sp C.tk C.mro) I.kIn ⟨hget, rfl, rfl, ho1⟩ e (fun z => nomatch z) fun tk => ⟨.bl b, H, I.kept (t' := tk) fun _ _ z => z, rfl, q⟩
/-! ### list.count of flat things -/
def rCntV (K : PySem.W.Frag) : V → List V → Hp → VK → Prop := fun x xs H Q => ∃ (p : Addr) (ys : List V) (y : V), x = .ref p ∧ xs = [y] ∧ SqL K H p ys ∧ flatV y = true ∧ ys.all flatV = true ∧ Q (.int ((ys.countP fun z => eqV z y : Nat) : Int)) H
theorem countU {y : V} : ∀ {ys : List V} {us : List Value}, Vals ys us → ys.all flatV = true → us.countP (eqU y) = ys.countP fun z => eqV z y
  | _, _, .nil, _ => rfl
  | z :: ys, u :: us, .cons r t, f => by
    obtain ⟨f1, f2⟩ := Bool.and_eq_true_iff.mp f
    rw [List.countP_cons, List.countP_cons, countU t f2, eqU_of r f1]
theorem mt_countV {X : Cx} : MtR X "list.count" (rCntV X.K) := by
  intro pins s σ H x xs v us Q I rx rxs h
  obtain ⟨p, ys, y, rfl, rfl, hs, fy, fys, q⟩ := h
  cases (show v = Value.ref p from rx)
  obtain ⟨u, rfl, ru⟩ := rxs.one
  obtain ⟨its, rv, ⟨⟨cls, dd, data, sl⟩, n, ho, hc, hdn, hd⟩, hlen⟩ := I.list hs
  dsimp only at hc hd
  subst hc hd
  have key := SeqAt.list_countAt p its.toArray n dd sl u (eqU y)
  refine call_meets PySem.F.slot_list_count ⟨_, ho, rfl⟩ PySem.F.entry_list_count (PySem.F.args_list_count_2 _ _) key ⟨ho, fun w hw => mem_eqAt ru fy rv fys w (by simpa using hw), ?_⟩
  refine ⟨.int ((its.toArray.toList.countP (eqU y) : Nat) : Int), H, I.tok _, ⟨s.toks, rfl⟩, ?_⟩
  rw [show its.toArray.toList = its by simp, countU rv fys]
  exact q
end OwnR

set_option Elab.async false
set_option linter.all false
/-! facts of own errors' classes from what k_is answers -/
namespace OwnR
open PySem PySem.Spec L2
section
variable {K : PySem.W.Frag} {C D : Addr} {b : Bool}
theorem kit_tyE {T : String} (h1 : PySem.W.kitMeta T = true) (h : PySem.W.subIn K (.ref C) (.type T) = some b) : PySem.W.kitOne K (.ref C) (.type T) = some b := by
  show (if (Value.ref C == Value.type T) = true then some true else PySem.W.kitCls K (.ref C) (.type T)) = some b
  have e : (Value.ref C == Value.type T) = false := by
    refine Bool.eq_false_iff.mpr fun q => ?_
    have := beq_iff_eq.mp q
    cases this
  rw [e]
  show (if PySem.W.kitMeta T = true then PySem.W.subIn K (.ref C) (.type T) else none) = some b
  rw [if_pos h1, h]
theorem kit_refE (hs : PySem.W.subIn K (.ref C) (.ref C) = some true) (c : PySem.W.isClsIn K D = true) (t : PySem.W.typeIn K (.ref D) = some (.type "type")) (h : PySem.W.subIn K (.ref C) (.ref D) = some b) : PySem.W.kitOne K (.ref C) (.ref D) = some b := by
  show (if (Value.ref C == Value.ref D) = true then some true else PySem.W.kitCls K (.ref C) (.ref D)) = some b
  by_cases q : (Value.ref C == Value.ref D) = true
  · rw [if_pos q]
    have e := Value.ref.inj (beq_iff_eq.mp q)
    subst e
    rw [hs] at h
    exact h
  · rw [if_neg q]
    have c2 : (PySem.W.clsIn K D).isSome = true := c
    have e2 : ((PySem.W.clsIn K D).isSome && PySem.W.typeIn K (.ref D) == some (.type "type")) = true := by rw [c2, t] <;> rfl
    show (if ((PySem.W.clsIn K D).isSome && PySem.W.typeIn K (.ref D) == some (.type "type")) = true then PySem.W.subIn K (.ref C) (.ref D) else none) = some b
    rw [if_pos e2, h]
end
end OwnR

set_option Elab.async false
set_option linter.all false
set_option maxRecDepth 100000
set_option maxHeartbeats 2000000
/-! _law_told: what a call gives, or what its error says. -/
namespace Sl
open PySem PySem.Spec L2 OwnR LamX
/-- the classes that it knows -/
structure ErrTab (mg : Str → Option Value) (CE c0 c1 c2 c3 c4 : Addr) : Prop where
  gE : mg "RoadError" = some (.ref CE)
  g0 : mg "InvalidRoad" = some (.ref c0)
  g1 : mg "InvalidCars" = some (.ref c1)
  g2 : mg "UnknownSection" = some (.ref c2)
  g3 : mg "UnknownCar" = some (.ref c3)
  g4 : mg "InvalidNumber" = some (.ref c4)
  gv : mg "ValueError" = none
/-- C is the j-th of them -/
structure ErrJ (K : PySem.W.Frag) (CE c0 c1 c2 c3 c4 C : Addr) (j : Nat) : Prop where
  e : ErrC K C
  x : PySem.W.exmOne K (.ref C) (.ref CE) = some true
  k0 : PySem.W.kitOne K (.ref C) (.ref c0) = some (decide (j = 0))
  k1 : PySem.W.kitOne K (.ref C) (.ref c1) = some (decide (j = 1))
  k2 : PySem.W.kitOne K (.ref C) (.ref c2) = some (decide (j = 2))
  k3 : PySem.W.kitOne K (.ref C) (.ref c3) = some (decide (j = 3))
  k4 : PySem.W.kitOne K (.ref C) (.ref c4) = some (decide (j = 4))
  kv : PySem.W.kitOne K (.ref C) (.type "ValueError") = some true
/-- the tuple that is told -/
def toldV (j : Nat) (v : V) : List V := match j with
  | 0 => [.str "error", .str "InvalidRoad", v]
  | 1 => [.str "error", .str "InvalidCars", v]
  | 2 => [.str "error", .str "UnknownSection", v]
  | 3 => [.str "error", .str "UnknownCar", v]
  | _ => [.str "error", .str "InvalidNumber"]
/-- the error's field -/
def fldV (j : Nat) (d : Option Addr) (H : Hp) (v : V) : Prop := j = 4 ∨ ∃ dd fs, d = some dd ∧ H dd = some (.xd fs) ∧ fs.lookup (if j = 3 then ("name" : Str) else "index") = some v
theorem fldV.same {j : Nat} {d : Option Addr} {H H' : Hp} {v : V} (h : fldV j d H v) (e : Same H H') : fldV j d H' v := by
  rcases h with h | ⟨dd, fs, h1, h2, h3⟩
  · exact .inl h
  · exact .inr ⟨dd, fs, h1, e _ _ h2, h3⟩
def toldR (K : PySem.W.Frag) (CE c0 c1 c2 c3 c4 : Addr) (cls : Value) (d : Option Addr) (H : Hp) (Q : VK) : Prop :=
  ∃ (C : Addr) (j : Nat) (v : V), cls = .ref C ∧ ErrJ K CE c0 c1 c2 c3 c4 C j ∧ j < 5 ∧ DictK H d ∧ fldV j d H v ∧ ∀ H' p, Same H H' → H' p = some (.tup (toldV j v)) → Q (.ref p) H'
def TTel (K : PySem.W.Frag) (CE c0 c1 c2 c3 c4 : Addr) : (XK → Hp → VK → Prop) → Hp → VK → Prop := fun tl H Q => tl (fun cls d H' => toldR K CE c0 c1 c2 c3 c4 cls d H' Q) H Q
def nTold : List Str := ["_law_work", "e", "_law_some", "_law_terms", "_law_k"]
theorem scTold : FnScope nTold ["_law_work"] (defScope sTold) := ⟨rfl, rfl, rfl, by decide +kernel, rfl, by decide +kernel, by decide +kernel⟩
/-- the reading of the suite -/
def tIsV (K : PySem.W.Frag) (C a : Addr) (d : Option Addr) (c : V) : TE := tCB (rIsV K C a d) (tCons (tVar 1) (tCons (tC c) tNil))
def tSuite (K : PySem.W.Frag) (c0 c1 c2 c3 c4 C a : Addr) (d : Option Addr) : TS :=
  tSeq (tAsg (tLst (tCons (tIsV K C a d (.ref c0)) (tCons (tIsV K C a d (.ref c1)) (tCons (tIsV K C a d (.ref c2)) tNil)))) (gName 2))
  (tSeq (tAsg (tOp rCat (tVar 2) (tLst (tCons (tIsV K C a d (.ref c3)) (tCons (tIsV K C a d (.ref c4)) tNil)))) (gName 2))
  (tSeq (tAsg (tLst (tCons (tC (.str "InvalidRoad")) (tCons (tC (.str "InvalidCars")) (tCons (tC (.str "UnknownSection")) (tCons (tC (.str "UnknownCar")) (tCons (tC (.str "InvalidNumber")) (tCons (tC (.str "other")) tNil))))))) (gName 3))
  (tSeq (tAsg (tIf (tAnd (tTest (tOp rEq (tBM K "list" (rCntV K) (tVar 2) (tCons (tC (.bl true)) tNil)) (tC (.int 1)))) (tB (tIsV K C a d (.ty "ValueError")))) (tBM K "list" (rIndex K) (tVar 2) (tCons (tC (.bl true)) tNil)) (tC (.int 5))) (gName 4))
  (tSeq (tIfS (tTest (tOp (rI0 fun i j => .bl (decide (i < j))) (tVar 4) (tC (.int 3)))) (tRet (tTup (tCons (tC (.str "error")) (tCons (tOp (rIxL K) (tVar 3) (tVar 4)) (tCons (tXf a (.ref C) d C "index" (tVar 1)) tNil))))) tNext)
  (tRet (tIf (tTest (tOp rEq (tVar 4) (tC (.int 3)))) (tTup (tCons (tC (.str "error")) (tCons (tOp (rIxL K) (tVar 3) (tVar 4)) (tCons (tXf a (.ref C) d C "name" (tVar 1)) tNil)))) (tTup (tCons (tC (.str "error")) (tCons (tOp (rIxL K) (tVar 3) (tVar 4)) tNil)))))))))
theorem pss_ex {X : Cx} {l : List Stmt} {α : Type} {t : α → TS} {p : α → Prop} (h : ∀ a, p a → PSs X l (t a)) : PSs X l (fun D σ H => ∃ a, p a ∧ t a D σ H) := ⟨fun pins s σ H D I ⟨a, pa, q⟩ => (h a pa).run pins s σ H D I q⟩
theorem told_gives {P : Program} {w : World} {K : PySem.W.Frag} {mg : Str → Option Value} {base : Heap} {A : Around} {stack : List Env} {g : Addr} {cdg : Value} {CE c0 c1 c2 c3 c4 : Addr} (M : Mg mg) (W : ErrTab mg CE c0 c1 c2 c3 c4) :
    GivesV P w K mg base A stack nTold "_law_told" (defScope sTold) g cdg (defBody sTold) "_law_work" (TTel K CE c0 c1 c2 c3 c4) := by
  intro f s H Q Held tl act hH h
  have nd := scTold.nd
  refine ⟨_, pss_one (ps_try_as (X := (cxOf L2.CX0 P w K mg base nTold "_law_told" (defScope sTold) g cdg A stack s H L2.E0).nox) (c := .ref CE) (i := 1)
      (tb := fun W D σ H => ∃ Ech : XK, (∀ cls d σ' H', σ'.length = nTold.length → Ech cls d H' → W cls d σ' H') ∧ σ[0]? = some (some (.ref f)) ∧ Held H ∧ tl Ech H D.rt)
      (ts := fun a cls d D σ H => ∃ q : Addr × Nat, (cls = .ref q.1 ∧ ErrJ K CE c0 c1 c2 c3 c4 q.1 q.2) ∧ tSuite K c0 c1 c2 c3 c4 q.1 a d D σ H)
      rfl rfl nd rfl rfl ⟨rfl, by decide, .inl W.gE⟩ LamX.takes0 (fun W pn xe tk _ => ⟨fun pins s' σ H' D I h' => ?_⟩) (fun a oe cls d pn hz hf => ?_)), ?_⟩
  · obtain ⟨Ech, hW, h1, h2, h3⟩ := h'
    exact (pss_one (ps_ret (act W pn xe Ech _ _ tk hW))).run pins s' σ H' D I ⟨h1, h2, h3⟩
  · refine pss_ex (p := fun q : Addr × Nat => cls = .ref q.1 ∧ ErrJ K CE c0 c1 c2 c3 c4 q.1 q.2) (t := fun q => tSuite K c0 c1 c2 c3 c4 q.1 a d) fun q hq => ?_
    have hz2 : Zc (.ref q.1) d oe := by rw [← hq.1]; exact hz
    have J := hq.2
    exact (pss_cons (ps_set (i := 2) nd rfl (.inl rfl) (pe_lst (pa_cons (pe_callB (call_isV J.e hz2 hf) (by rfl) M.isinstance boot_isinstance (pa_cons (pv 1) (pa_cons (pe_glob (v := .ref c0) (by rfl) W.g0 rfl) pa_nil))) (pa_cons (pe_callB (call_isV J.e hz2 hf) (by rfl) M.isinstance boot_isinstance (pa_cons (pv 1) (pa_cons (pe_glob (v := .ref c1) (by rfl) W.g1 rfl) pa_nil))) (pa_cons (pe_callB (call_isV J.e hz2 hf) (by rfl) M.isinstance boot_isinstance (pa_cons (pv 1) (pa_cons (pe_glob (v := .ref c2) (by rfl) W.g2 rfl) pa_nil))) pa_nil))))) (pss_cons (ps_set (i := 2) nd rfl (.inl rfl) (pe_op op_cat (pv 2) (pe_lst (pa_cons (pe_callB (call_isV J.e hz2 hf) (by rfl) M.isinstance boot_isinstance (pa_cons (pv 1) (pa_cons (pe_glob (v := .ref c3) (by rfl) W.g3 rfl) pa_nil))) (pa_cons (pe_callB (call_isV J.e hz2 hf) (by rfl) M.isinstance boot_isinstance (pa_cons (pv 1) (pa_cons (pe_glob (v := .ref c4) (by rfl) W.g4 rfl) pa_nil))) pa_nil))))) (pss_cons (ps_set (i := 3) nd rfl (.inl rfl) (pe_lst (pa_cons pe_str (pa_cons pe_str (pa_cons pe_str (pa_cons pe_str (pa_cons pe_str (pa_cons pe_str pa_nil)))))))) (pss_cons (ps_set (i := 4) nd rfl (.inl rfl) (pe_ifExp (PW.pt (pw_and (pt_cmpR op_eq (pe_bm PySem.F.plainAttrs_list PySem.F.slot_list_count PySem.F.type_list_count mt_countV (pv 2) (pa_cons pe_bl pa_nil)) pe_int (nomark _)) (pw_and1 (pt_val (pe_callB (call_isV J.e hz2 hf) (by rfl) M.isinstance boot_isinstance (pa_cons (pv 1) (pa_cons (pe_bltn (v := .ty "ValueError") (by rfl) W.gv PyProof.Rows.Boot.«ValueError» rfl) pa_nil))))))) (pe_bm PySem.F.plainAttrs_list PySem.F.slot_list_index PySem.F.type_list_index mt_index (pv 2) (pa_cons pe_bl pa_nil)) pe_int)) (pss_cons (ps_if (pt_cmpR op_lt (pv 4) pe_int (nomark _)) (pss_one (ps_ret (pe_tup (pa_cons pe_str (pa_cons (pe_ix ix_list (pv 3) (pv 4) (fun _ _ => rfl)) (pa_cons (pe_xf J.e.xf J.e.ix hz2 hf (pv 1)) pa_nil)))))) pss_nil) (pss_one (ps_ret (pe_ifExp (pt_cmpR op_eq (pv 4) pe_int (nomark _)) (pe_tup (pa_cons pe_str (pa_cons (pe_ix ix_list (pv 3) (pv 4) (fun _ _ => rfl)) (pa_cons (pe_xf J.e.xf J.e.nm hz2 hf (pv 1)) pa_nil)))) (pe_tup (pa_cons pe_str (pa_cons (pe_ix ix_list (pv 3) (pv 4) (fun _ _ => rfl)) pa_nil)))))))))))
  · refine ⟨fun cls d H' => toldR K CE c0 c1 c2 c3 c4 cls d H' Q, ?_, rfl, hH, h⟩
    rintro cls d σ' H1 hl ⟨C, j, v, rfl, J, hj, hd, hf, hQ⟩
    obtain ⟨x0, x1, x2, x3, x4, rfl⟩ : ∃ x0 x1 x2 x3 x4, σ' = [x0, x1, x2, x3, x4] := by
      match σ', hl with
      | [x0, x1, x2, x3, x4], _ => exact ⟨x0, x1, x2, x3, x4, rfl⟩
    refine ⟨true, J.x, fun _ a ha => ⟨(C, j), ⟨rfl, J⟩, ?_⟩, fun z => nomatch z⟩
    show tSuite K c0 c1 c2 c3 c4 C a d _ _ H1
    have dk : ∀ {H2 : Hp}, Same H1 H2 → DictK H2 d := fun e => hd.ext (ExtN.same e)
    have isv : ∀ {σ : L2.St} {H2 : Hp} {c : V} {cv : Value} {b : Bool} {Q2 : VK}, σ[1]? = some (some (.ref a)) → Same H1 H2 → (∀ u, RelV c u → u = cv) → PySem.W.kitOne K (.ref C) cv = some b → Q2 (.bl b) H2 → tIsV K C a d c σ H2 Q2 :=
      fun hσ e hc hk hq => ⟨_, hσ, _, _, _, rfl, hc, hk, dk e, hq⟩
    unfold tSuite
    match j, hj with
    | 0, _ =>
      refine isv rfl (Same.refl _) (fun u e => e) J.k0 (isv rfl (Same.refl _) (fun u e => e) J.k1 (isv rfl (Same.refl _) (fun u e => e) J.k2 ⟨by show 3 ≤ sizeLine; decide, fun p1 hp1 => ?_⟩))
      have s1 := sameNew hp1 (.lst [.bl true, .bl false, .bl false])
      refine ⟨_, rfl, isv rfl s1 (fun u e => e) J.k3 (isv rfl s1 (fun u e => e) J.k4 ⟨by show 2 ≤ sizeLine; decide, fun p2 hp2 => ?_⟩)⟩
      have s2 := s1.trans (sameNew hp2 (.lst [.bl false, .bl false]))
      refine ⟨p1, p2, [.bl true, .bl false, .bl false], [.bl false, .bl false], rfl, rfl, sameNew hp2 _ _ _ upd_same, upd_same, by show 5 ≤ sizeLine; decide, fun p3 hp3 => ?_⟩
      have s3 := s2.trans (sameNew hp3 (.lst [.bl true, .bl false, .bl false, .bl false, .bl false]))
      have h3 : upd (upd (upd H1 p1 (.lst [.bl true, .bl false, .bl false])) p2 (.lst [.bl false, .bl false])) p3 (.lst [.bl true, .bl false, .bl false, .bl false, .bl false]) p3 = some (.lst [.bl true, .bl false, .bl false, .bl false, .bl false]) := upd_same
      refine ⟨by show 6 ≤ sizeLine; decide, fun p4 hp4 => ?_⟩
      have s4 := s3.trans (sameNew hp4 (.lst [.str "InvalidRoad", .str "InvalidCars", .str "UnknownSection", .str "UnknownCar", .str "InvalidNumber", .str "other"]))
      have h4 := sameNew hp4 (.lst [.str "InvalidRoad", .str "InvalidCars", .str "UnknownSection", .str "UnknownCar", .str "InvalidNumber", .str "other"]) _ _ h3
      refine ⟨_, rfl, .inl ⟨rfl, _, SqL.of h4⟩, p3, [.bl true, .bl false, .bl false, .bl false, .bl false], .bl true, rfl, rfl, SqL.of h4, rfl, rfl, rfl, _, rfl, iteT ?_⟩
      refine isv rfl s4 (fun u e => e) J.kv ⟨true, rfl, iteT ?_⟩
      refine ⟨_, rfl, .inl ⟨rfl, _, SqL.of h4⟩, p3, [.bl true, .bl false, .bl false, .bl false, .bl false], .bl true, 0, .bl true, rfl, rfl, SqL.of h4, rfl, rfl, rfl, rfl, fun m z' hm e => ?_, ?_⟩
      · exact absurd hm (by omega)
      have hix : upd (upd (upd (upd H1 p1 (.lst [.bl true, .bl false, .bl false])) p2 (.lst [.bl false, .bl false])) p3 (.lst [.bl true, .bl false, .bl false, .bl false, .bl false])) p4 (.lst [.str "InvalidRoad", .str "InvalidCars", .str "UnknownSection", .str "UnknownCar", .str "InvalidNumber", .str "other"]) p4 = some (.lst [.str "InvalidRoad", .str "InvalidCars", .str "UnknownSection", .str "UnknownCar", .str "InvalidNumber", .str "other"]) := upd_same
      refine ⟨_, rfl, _, _, rfl, rfl, _, rfl, ?_⟩
      refine iteT ⟨_, rfl, _, rfl, p4, _, ((0 : Nat) : Int), .str "InvalidRoad", rfl, rfl, SqL.of hix, atI_nat rfl, ?_⟩
      rcases hf with hf | ⟨dd, fs, rfl, hdd, hfl⟩
      · exact absurd hf (by decide)
      refine ⟨_, rfl, rfl, rfl, dd, fs, v, rfl, s4 _ _ hdd, hfl, by show 3 ≤ sizeLine; decide, fun p hp => ?_⟩
      exact hQ _ p (s4.trans (sameNew hp _)) upd_same
    | 1, _ =>
      refine isv rfl (Same.refl _) (fun u e => e) J.k0 (isv rfl (Same.refl _) (fun u e => e) J.k1 (isv rfl (Same.refl _) (fun u e => e) J.k2 ⟨by show 3 ≤ sizeLine; decide, fun p1 hp1 => ?_⟩))
      have s1 := sameNew hp1 (.lst [.bl false, .bl true, .bl false])
      refine ⟨_, rfl, isv rfl s1 (fun u e => e) J.k3 (isv rfl s1 (fun u e => e) J.k4 ⟨by show 2 ≤ sizeLine; decide, fun p2 hp2 => ?_⟩)⟩
      have s2 := s1.trans (sameNew hp2 (.lst [.bl false, .bl false]))
      refine ⟨p1, p2, [.bl false, .bl true, .bl false], [.bl false, .bl false], rfl, rfl, sameNew hp2 _ _ _ upd_same, upd_same, by show 5 ≤ sizeLine; decide, fun p3 hp3 => ?_⟩
      have s3 := s2.trans (sameNew hp3 (.lst [.bl false, .bl true, .bl false, .bl false, .bl false]))
      have h3 : upd (upd (upd H1 p1 (.lst [.bl false, .bl true, .bl false])) p2 (.lst [.bl false, .bl false])) p3 (.lst [.bl false, .bl true, .bl false, .bl false, .bl false]) p3 = some (.lst [.bl false, .bl true, .bl false, .bl false, .bl false]) := upd_same
      refine ⟨by show 6 ≤ sizeLine; decide, fun p4 hp4 => ?_⟩
      have s4 := s3.trans (sameNew hp4 (.lst [.str "InvalidRoad", .str "InvalidCars", .str "UnknownSection", .str "UnknownCar", .str "InvalidNumber", .str "other"]))
      have h4 := sameNew hp4 (.lst [.str "InvalidRoad", .str "InvalidCars", .str "UnknownSection", .str "UnknownCar", .str "InvalidNumber", .str "other"]) _ _ h3
      refine ⟨_, rfl, .inl ⟨rfl, _, SqL.of h4⟩, p3, [.bl false, .bl true, .bl false, .bl false, .bl false], .bl true, rfl, rfl, SqL.of h4, rfl, rfl, rfl, _, rfl, iteT ?_⟩
      refine isv rfl s4 (fun u e => e) J.kv ⟨true, rfl, iteT ?_⟩
      refine ⟨_, rfl, .inl ⟨rfl, _, SqL.of h4⟩, p3, [.bl false, .bl true, .bl false, .bl false, .bl false], .bl true, 1, .bl true, rfl, rfl, SqL.of h4, rfl, rfl, rfl, rfl, fun m z' hm e => ?_, ?_⟩
      · match m, hm, e with
        | 0, _, e => cases e; rfl
      have hix : upd (upd (upd (upd H1 p1 (.lst [.bl false, .bl true, .bl false])) p2 (.lst [.bl false, .bl false])) p3 (.lst [.bl false, .bl true, .bl false, .bl false, .bl false])) p4 (.lst [.str "InvalidRoad", .str "InvalidCars", .str "UnknownSection", .str "UnknownCar", .str "InvalidNumber", .str "other"]) p4 = some (.lst [.str "InvalidRoad", .str "InvalidCars", .str "UnknownSection", .str "UnknownCar", .str "InvalidNumber", .str "other"]) := upd_same
      refine ⟨_, rfl, _, _, rfl, rfl, _, rfl, ?_⟩
      refine iteT ⟨_, rfl, _, rfl, p4, _, ((1 : Nat) : Int), .str "InvalidCars", rfl, rfl, SqL.of hix, atI_nat rfl, ?_⟩
      rcases hf with hf | ⟨dd, fs, rfl, hdd, hfl⟩
      · exact absurd hf (by decide)
      refine ⟨_, rfl, rfl, rfl, dd, fs, v, rfl, s4 _ _ hdd, hfl, by show 3 ≤ sizeLine; decide, fun p hp => ?_⟩
      exact hQ _ p (s4.trans (sameNew hp _)) upd_same
    | 2, _ =>
      refine isv rfl (Same.refl _) (fun u e => e) J.k0 (isv rfl (Same.refl _) (fun u e => e) J.k1 (isv rfl (Same.refl _) (fun u e => e) J.k2 ⟨by show 3 ≤ sizeLine; decide, fun p1 hp1 => ?_⟩))
      have s1 := sameNew hp1 (.lst [.bl false, .bl false, .bl true])
      refine ⟨_, rfl, isv rfl s1 (fun u e => e) J.k3 (isv rfl s1 (fun u e => e) J.k4 ⟨by show 2 ≤ sizeLine; decide, fun p2 hp2 => ?_⟩)⟩
      have s2 := s1.trans (sameNew hp2 (.lst [.bl false, .bl false]))
      refine ⟨p1, p2, [.bl false, .bl false, .bl true], [.bl false, .bl false], rfl, rfl, sameNew hp2 _ _ _ upd_same, upd_same, by show 5 ≤ sizeLine; decide, fun p3 hp3 => ?_⟩
      have s3 := s2.trans (sameNew hp3 (.lst [.bl false, .bl false, .bl true, .bl false, .bl false]))
      have h3 : upd (upd (upd H1 p1 (.lst [.bl false, .bl false, .bl true])) p2 (.lst [.bl false, .bl false])) p3 (.lst [.bl false, .bl false, .bl true, .bl false, .bl false]) p3 = some (.lst [.bl false, .bl false, .bl true, .bl false, .bl false]) := upd_same
      refine ⟨by show 6 ≤ sizeLine; decide, fun p4 hp4 => ?_⟩
      have s4 := s3.trans (sameNew hp4 (.lst [.str "InvalidRoad", .str "InvalidCars", .str "UnknownSection", .str "UnknownCar", .str "InvalidNumber", .str "other"]))
      have h4 := sameNew hp4 (.lst [.str "InvalidRoad", .str "InvalidCars", .str "UnknownSection", .str "UnknownCar", .str "InvalidNumber", .str "other"]) _ _ h3
      refine ⟨_, rfl, .inl ⟨rfl, _, SqL.of h4⟩, p3, [.bl false, .bl false, .bl true, .bl false, .bl false], .bl true, rfl, rfl, SqL.of h4, rfl, rfl, rfl, _, rfl, iteT ?_⟩
      refine isv rfl s4 (fun u e => e) J.kv ⟨true, rfl, iteT ?_⟩
      refine ⟨_, rfl, .inl ⟨rfl, _, SqL.of h4⟩, p3, [.bl false, .bl false, .bl true, .bl false, .bl false], .bl true, 2, .bl true, rfl, rfl, SqL.of h4, rfl, rfl, rfl, rfl, fun m z' hm e => ?_, ?_⟩
      · match m, hm, e with
        | 0, _, e => cases e; rfl
        | 1, _, e => cases e; rfl
      have hix : upd (upd (upd (upd H1 p1 (.lst [.bl false, .bl false, .bl true])) p2 (.lst [.bl false, .bl false])) p3 (.lst [.bl false, .bl false, .bl true, .bl false, .bl false])) p4 (.lst [.str "InvalidRoad", .str "InvalidCars", .str "UnknownSection", .str "UnknownCar", .str "InvalidNumber", .str "other"]) p4 = some (.lst [.str "InvalidRoad", .str "InvalidCars", .str "UnknownSection", .str "UnknownCar", .str "InvalidNumber", .str "other"]) := upd_same
      refine ⟨_, rfl, _, _, rfl, rfl, _, rfl, ?_⟩
      refine iteT ⟨_, rfl, _, rfl, p4, _, ((2 : Nat) : Int), .str "UnknownSection", rfl, rfl, SqL.of hix, atI_nat rfl, ?_⟩
      rcases hf with hf | ⟨dd, fs, rfl, hdd, hfl⟩
      · exact absurd hf (by decide)
      refine ⟨_, rfl, rfl, rfl, dd, fs, v, rfl, s4 _ _ hdd, hfl, by show 3 ≤ sizeLine; decide, fun p hp => ?_⟩
      exact hQ _ p (s4.trans (sameNew hp _)) upd_same
    | 3, _ =>
      refine isv rfl (Same.refl _) (fun u e => e) J.k0 (isv rfl (Same.refl _) (fun u e => e) J.k1 (isv rfl (Same.refl _) (fun u e => e) J.k2 ⟨by show 3 ≤ sizeLine; decide, fun p1 hp1 => ?_⟩))
      have s1 := sameNew hp1 (.lst [.bl false, .bl false, .bl false])
      refine ⟨_, rfl, isv rfl s1 (fun u e => e) J.k3 (isv rfl s1 (fun u e => e) J.k4 ⟨by show 2 ≤ sizeLine; decide, fun p2 hp2 => ?_⟩)⟩
      have s2 := s1.trans (sameNew hp2 (.lst [.bl true, .bl false]))
      refine ⟨p1, p2, [.bl false, .bl false, .bl false], [.bl true, .bl false], rfl, rfl, sameNew hp2 _ _ _ upd_same, upd_same, by show 5 ≤ sizeLine; decide, fun p3 hp3 => ?_⟩
      have s3 := s2.trans (sameNew hp3 (.lst [.bl false, .bl false, .bl false, .bl true, .bl false]))
      have h3 : upd (upd (upd H1 p1 (.lst [.bl false, .bl false, .bl false])) p2 (.lst [.bl true, .bl false])) p3 (.lst [.bl false, .bl false, .bl false, .bl true, .bl false]) p3 = some (.lst [.bl false, .bl false, .bl false, .bl true, .bl false]) := upd_same
      refine ⟨by show 6 ≤ sizeLine; decide, fun p4 hp4 => ?_⟩
      have s4 := s3.trans (sameNew hp4 (.lst [.str "InvalidRoad", .str "InvalidCars", .str "UnknownSection", .str "UnknownCar", .str "InvalidNumber", .str "other"]))
      have h4 := sameNew hp4 (.lst [.str "InvalidRoad", .str "InvalidCars", .str "UnknownSection", .str "UnknownCar", .str "InvalidNumber", .str "other"]) _ _ h3
      refine ⟨_, rfl, .inl ⟨rfl, _, SqL.of h4⟩, p3, [.bl false, .bl false, .bl false, .bl true, .bl false], .bl true, rfl, rfl, SqL.of h4, rfl, rfl, rfl, _, rfl, iteT ?_⟩
      refine isv rfl s4 (fun u e => e) J.kv ⟨true, rfl, iteT ?_⟩
      refine ⟨_, rfl, .inl ⟨rfl, _, SqL.of h4⟩, p3, [.bl false, .bl false, .bl false, .bl true, .bl false], .bl true, 3, .bl true, rfl, rfl, SqL.of h4, rfl, rfl, rfl, rfl, fun m z' hm e => ?_, ?_⟩
      · match m, hm, e with
        | 0, _, e => cases e; rfl
        | 1, _, e => cases e; rfl
        | 2, _, e => cases e; rfl
      have hix : upd (upd (upd (upd H1 p1 (.lst [.bl false, .bl false, .bl false])) p2 (.lst [.bl true, .bl false])) p3 (.lst [.bl false, .bl false, .bl false, .bl true, .bl false])) p4 (.lst [.str "InvalidRoad", .str "InvalidCars", .str "UnknownSection", .str "UnknownCar", .str "InvalidNumber", .str "other"]) p4 = some (.lst [.str "InvalidRoad", .str "InvalidCars", .str "UnknownSection", .str "UnknownCar", .str "InvalidNumber", .str "other"]) := upd_same
      refine ⟨_, rfl, _, _, rfl, rfl, _, rfl, ?_⟩
      refine iteF ⟨_, rfl, rfl, _, rfl, iteT ?_⟩
      refine ⟨_, rfl, _, rfl, p4, _, ((3 : Nat) : Int), .str "UnknownCar", rfl, rfl, SqL.of hix, atI_nat rfl, ?_⟩
      rcases hf with hf | ⟨dd, fs, rfl, hdd, hfl⟩
      · exact absurd hf (by decide)
      refine ⟨_, rfl, rfl, rfl, dd, fs, v, rfl, s4 _ _ hdd, hfl, by show 3 ≤ sizeLine; decide, fun p hp => ?_⟩
      exact hQ _ p (s4.trans (sameNew hp _)) upd_same
    | 4, _ =>
      refine isv rfl (Same.refl _) (fun u e => e) J.k0 (isv rfl (Same.refl _) (fun u e => e) J.k1 (isv rfl (Same.refl _) (fun u e => e) J.k2 ⟨by show 3 ≤ sizeLine; decide, fun p1 hp1 => ?_⟩))
      have s1 := sameNew hp1 (.lst [.bl false, .bl false, .bl false])
      refine ⟨_, rfl, isv rfl s1 (fun u e => e) J.k3 (isv rfl s1 (fun u e => e) J.k4 ⟨by show 2 ≤ sizeLine; decide, fun p2 hp2 => ?_⟩)⟩
      have s2 := s1.trans (sameNew hp2 (.lst [.bl false, .bl true]))
      refine ⟨p1, p2, [.bl false, .bl false, .bl false], [.bl false, .bl true], rfl, rfl, sameNew hp2 _ _ _ upd_same, upd_same, by show 5 ≤ sizeLine; decide, fun p3 hp3 => ?_⟩
      have s3 := s2.trans (sameNew hp3 (.lst [.bl false, .bl false, .bl false, .bl false, .bl true]))
      have h3 : upd (upd (upd H1 p1 (.lst [.bl false, .bl false, .bl false])) p2 (.lst [.bl false, .bl true])) p3 (.lst [.bl false, .bl false, .bl false, .bl false, .bl true]) p3 = some (.lst [.bl false, .bl false, .bl false, .bl false, .bl true]) := upd_same
      refine ⟨by show 6 ≤ sizeLine; decide, fun p4 hp4 => ?_⟩
      have s4 := s3.trans (sameNew hp4 (.lst [.str "InvalidRoad", .str "InvalidCars", .str "UnknownSection", .str "UnknownCar", .str "InvalidNumber", .str "other"]))
      have h4 := sameNew hp4 (.lst [.str "InvalidRoad", .str "InvalidCars", .str "UnknownSection", .str "UnknownCar", .str "InvalidNumber", .str "other"]) _ _ h3
      refine ⟨_, rfl, .inl ⟨rfl, _, SqL.of h4⟩, p3, [.bl false, .bl false, .bl false, .bl false, .bl true], .bl true, rfl, rfl, SqL.of h4, rfl, rfl, rfl, _, rfl, iteT ?_⟩
      refine isv rfl s4 (fun u e => e) J.kv ⟨true, rfl, iteT ?_⟩
      refine ⟨_, rfl, .inl ⟨rfl, _, SqL.of h4⟩, p3, [.bl false, .bl false, .bl false, .bl false, .bl true], .bl true, 4, .bl true, rfl, rfl, SqL.of h4, rfl, rfl, rfl, rfl, fun m z' hm e => ?_, ?_⟩
      · match m, hm, e with
        | 0, _, e => cases e; rfl
        | 1, _, e => cases e; rfl
        | 2, _, e => cases e; rfl
        | 3, _, e => cases e; rfl
      have hix : upd (upd (upd (upd H1 p1 (.lst [.bl false, .bl false, .bl false])) p2 (.lst [.bl false, .bl true])) p3 (.lst [.bl false, .bl false, .bl false, .bl false, .bl true])) p4 (.lst [.str "InvalidRoad", .str "InvalidCars", .str "UnknownSection", .str "UnknownCar", .str "InvalidNumber", .str "other"]) p4 = some (.lst [.str "InvalidRoad", .str "InvalidCars", .str "UnknownSection", .str "UnknownCar", .str "InvalidNumber", .str "other"]) := upd_same
      refine ⟨_, rfl, _, _, rfl, rfl, _, rfl, ?_⟩
      refine iteF ⟨_, rfl, rfl, _, rfl, iteF ?_⟩
      refine ⟨_, rfl, _, rfl, p4, _, ((4 : Nat) : Int), .str "InvalidNumber", rfl, rfl, SqL.of hix, atI_nat rfl, by show 2 ≤ sizeLine; decide, fun p hp => ?_⟩
      exact hQ _ p (s4.trans (sameNew hp _)) upd_same
end Sl

set_option Elab.async false
set_option linter.all false
set_option maxRecDepth 100000
set_option maxHeartbeats 1000000
namespace Sl
open PySem PySem.Spec L2 OwnR LamX
section
variable {P : Program} {w : World} {K : PySem.W.Frag} {mg : Str → Option Value} {base : Heap}
/-! ### _law_rest -/
def spRest : Sp := fun vs H Q _ => ∃ (a : Addr) (cars : List Car) (n : Str), vs = [.ref a, .str n] ∧ TupsAt H a (cars.map Car.vs) ∧ cars.length ≤ 10 ∧ ∀ H' b, Same H H' → H b = none → TupsAt H' b ((lessC cars n).map Car.vs) → Q (.ref b) H'
def nRest : List Str := ["_law_cars_here", "_law_name", "_law_car"]
theorem scRest : FnScope nRest ["_law_cars_here", "_law_name"] (defScope sRest) := ⟨rfl, rfl, rfl, by decide +kernel, rfl, by decide +kernel, by decide +kernel⟩
theorem ok_rest {f : Addr} {fd : FuncData} (F : Fun K "_law_rest" "_law_rest" sRest f fd) : FnOk P w K mg base CX0 1 f fd ["_law_cars_here", "_law_name"] spRest := by
  refine F.ok scRest (fun vs H Q E h => ?_) (fun cdv A outer s H vs Q E hr h => ?_)
  · obtain ⟨a, cars, n, rfl, _⟩ := h
    rfl
  · obtain ⟨a, cars, n, rfl, hC, few, k⟩ := h
    have nd := scRest.nd
    refine ⟨_, pss_one (ps_ret (pe_lc (own := [("_law_car", 2)]) (g := gName 2) (tt := tTest (tOp rNe (tOp (rIxT K) (tVar 2) (tC (.int 0))) (tVar 1))) (te := tVar 2) (by rfl) nd (pi_list (pv 0)) (blkOk_by (N := nRest) (sc := defScope sRest) (by decide +kernel))
          (fun _ _ _ _ _ => pg_name (i := 2) nd rfl (Or.inl rfl)) (fun _ _ _ _ _ => pts_one (pt_cmpR op_ne (pe_ix (r := rIxT K) ix_tup (pv 2) pe_int (fun _ _ => rfl)) (pv 1) (nomark _))) (fun _ _ _ _ _ => pv 2))), ?_⟩
    obtain ⟨ts, h1, h2, h3⟩ := hC
    rw [List.length_map] at h2
    have hl : (ts.map V.ref).length = cars.length := by rw [List.length_map, h2]
    refine ⟨_, rfl, a, rfl, ⟨_, SqL.of h1⟩, fun D hD => ?_⟩
    refine lc_it walk_list (fun i H1 => Same H H1 ∧ ∃ us : List Addr, H1 D = some (.lst (us.map V.ref)) ∧ us.length = (lessC (cars.take i) n).length ∧ ∀ (q : Nat) (t : Addr) (c : Car), us[q]? = some t → (lessC (cars.take i) n)[q]? = some c → H t = some (.tup c.vs))
      ⟨sameNew hD _, [], upd_same, rfl, fun q t c e => by simp at e⟩ (fun i H1 _ ⟨k1, _⟩ => SqL.of (k1 _ _ h1)) ?_ ?_
    · rintro i y Hz H1 hi ⟨k1, us, u1, u2, u3⟩ ⟨e, hy⟩
      subst e
      obtain ⟨t, ht, rfl⟩ : ∃ t, ts[i]? = some t ∧ y = V.ref t := by
        rw [List.getElem?_map] at hy
        obtain ⟨t, z1, z2⟩ := Option.map_eq_some_iff.mp hy
        exact ⟨t, z1, z2.symm⟩
      rw [hl] at hi
      obtain ⟨c, hc⟩ : ∃ c, cars[i]? = some c := ⟨_, List.getElem?_eq_getElem hi⟩
      have htv := h3 i t c.vs ht (by rw [List.getElem?_map, hc]; rfl)
      refine ⟨rfl, ?_⟩
      refine ⟨_, rfl, t, _, _, _, rfl, rfl, SqT.of (k1 _ _ htv), rfl, _, rfl, rfl, _, rfl, ?_⟩
      have e1 : lessC (cars.take (i + 1)) n = lessC (cars.take i) n ++ (if c.name = n then [] else [c]) := by
        unfold lessC
        rw [tk1 hc, List.filter_append]
        by_cases h : c.name = n <;> simp [h]
      have hul : (lessC (cars.take i) n).length ≤ 10 := by
        have := List.length_filter_le (fun c : Car => decide (c.name ≠ n)) (cars.take i)
        rw [List.length_take] at this
        unfold lessC
        omega
      rw [e1]
      by_cases h : c.name = n
      · rw [show (!decide (V.str c.name = V.str n)) = false by simp [h], if_pos h, List.append_nil]
        exact iteF ⟨k1, us, u1, u2, u3⟩
      · rw [show (!decide (V.str c.name = V.str n)) = true by simp [h], if_neg h]
        refine iteT ⟨_, rfl, _, u1, by rw [List.length_map, u2]; exact small1000 (by omega), fun b o e => by rw [upd_ne (ne_of_none e hD)]; exact k1 _ _ e, us ++ [t], by rw [upd_same, List.map_append]; rfl, by rw [List.length_append, List.length_append, u2]; rfl, fun q t' c' e1 e2 => ?_⟩
        rcases snoc_get e1 with e1 | ⟨hq, rfl⟩
        · have hql := (List.getElem?_eq_some_iff.mp e1).1
          rw [List.getElem?_append_left (by omega)] at e2
          exact u3 q t' c' e1 e2
        · rw [List.getElem?_append_right (by omega), hq, u2, Nat.sub_self] at e2
          have : c = c' := by simpa using e2
          rw [← this]
          exact htv
    · rintro H1 ⟨k1, us, u1, u2, u3⟩
      rw [hl, List.take_length] at u2 u3
      refine k _ D k1 hD ⟨us, u1, by rw [List.length_map, u2], fun i t v e1 e2 => ?_⟩
      rw [List.getElem?_map] at e2
      obtain ⟨c, hc, rfl⟩ := Option.map_eq_some_iff.mp e2
      exact k1 _ _ (u3 i t c e1 hc)
end
end Sl

set_option Elab.async false
set_option linter.all false
set_option maxRecDepth 100000
set_option maxHeartbeats 4000000
namespace Sl
open PySem PySem.Spec L2 OwnR LamX
/-! ### the first chain of all -/
theorem dd_first {o : Str} : ∀ (s : List Str) (A B : List Ch) (c : Ch), c.1 ∉ s → c.1 ∉ keysC A → c ∈ dd s (A ++ c :: B)
  | s, [], B, c, h1, _ => by
    show c ∈ (if c.1 ∈ s then dd s B else c :: dd (s ++ [c.1]) B)
    rw [if_neg h1]
    exact List.mem_cons_self
  | s, a :: A, B, c, h1, h2 => by
    have h3 : a.1 ≠ c.1 := fun z => h2 (by rw [← z]; exact List.mem_cons_self)
    have h4 : c.1 ∉ keysC A := fun z => h2 (List.mem_cons_of_mem _ z)
    show c ∈ (if a.1 ∈ s then dd s (A ++ c :: B) else a :: dd (s ++ [a.1]) (A ++ c :: B))
    by_cases q : a.1 ∈ s
    · rw [if_pos q]
      exact dd_first (o := o) s A B c h1 h4
    · rw [if_neg q]
      refine List.mem_cons_of_mem _ (dd_first (o := o) _ A B c (fun z => ?_) h4)
      rcases List.mem_append.mp z with z | z
      · exact h1 z
      · exact h3 (List.mem_singleton.mp z).symm
section
variable (chg : List Str) (lead : Str → Str → Bool) (m : Str)
theorem fst1_in : ∀ k, ∀ c ∈ fst1 chg lead m k, ∃ i, 1 ≤ i ∧ i ≤ k ∧ c ∈ pth chg lead m i
  | 0 => fun c hc => nomatch hc
  | k + 1 => fun c hc => by
    rcases List.mem_append.mp hc with hc | hc
    · obtain ⟨i, h1, h2, h3⟩ := fst1_in k c hc
      exact ⟨i, h1, by omega, h3⟩
    · exact ⟨k + 1, by omega, Nat.le_refl _, (dd_sub _ _ c hc).1⟩
theorem first_is (hm : m ∉ chg) {j : Nat} {A B : List Ch} {c : Ch} (e : pth chg lead m j = A ++ c :: B) (hA : c.1 ∉ keysC A) (hb : ∀ i, i < j → c.1 ∉ keysC (pth chg lead m i)) (ho : c.1 ∈ chg) {kk : Nat} {d : Ch} (hd : d ∈ (bfs chg lead m kk).1) (ed : d.1 = c.1) : d.2 = c.2 := by
  have hc : c ∈ (bfs chg lead m j).1 := by
    cases j with
    | zero =>
      have : c ∈ pth chg lead m 0 := by rw [e]; exact List.mem_append_right _ List.mem_cons_self
      rw [List.mem_singleton.mp this] at ho
      exact absurd ho hm
    | succ k =>
      rw [(bfsI chg lead m hm (k + 1)).eq]
      refine List.mem_cons_of_mem _ (List.mem_append_right _ ?_)
      rw [e]
      refine dd_first (o := m) _ A B c (fun z => ?_) hA
      obtain ⟨f, hf, ef⟩ := List.mem_map.mp z
      obtain ⟨i, _, h2, h3⟩ := fst1_in chg lead m k f hf
      exact hb i (by omega) (List.mem_map.mpr ⟨f, h3, ef⟩)
  have e1 := chainTo_mem (bfs_nd chg lead m kk) hd
  have e2 := chainTo_mem (bfs_nd chg lead m j) hc
  have hk1 : c.1 ∈ keysC (bfs chg lead m kk).1 := List.mem_map.mpr ⟨d, hd, ed⟩
  have hk2 : c.1 ∈ keysC (bfs chg lead m j).1 := List.mem_map.mpr ⟨c, hc, rfl⟩
  have es := chain_same chg lead m hk1 hk2
  rw [ed] at e1
  rw [e1, e2] at es
  exact Option.some.inj es
theorem first_there (hm : m ∉ chg) (hR : Reach chg lead m) {n : Nat} (hn : chg.length < n) {o : Str} (ho : o ∈ chg) (h : ∀ i, i < n → o ∉ keysC (pth chg lead m i)) : False := by
  have hv := bfs_found chg lead m hm hR (Nat.le_refl chg.length) o ho
  rw [(bfsI chg lead m hm chg.length).eq] at hv
  rcases List.mem_cons.mp hv with z | hv
  · have z : o = m := z
    exact hm (z ▸ ho)
  · obtain ⟨f, hf, ef⟩ := List.mem_map.mp hv
    obtain ⟨i, _, h2, h3⟩ := fst1_in chg lead m _ f hf
    exact h i (by omega) (List.mem_map.mpr ⟨f, h3, ef⟩)
end
/-! ### _law_chain -/
/-- what it answers: the program's chain, or None -/
def LChV (H : Hp) (secs : List Sec) (cars : List Car) (n o : Str) (v : V) : Prop := (v = .non ∧ o ∉ chgL secs cars n) ∨ ∃ (l : Addr) (xs : List Str), v = .ref l ∧ o ∈ chgL secs cars n ∧ H l = some (.lst (xs.map V.str)) ∧ xs.length ≤ 100 ∧ ∀ (k : Nat) (c : Ch), c ∈ (bfs (chgL secs cars n) (leadB secs cars n) n k).1 → c.1 = o → c.2 = xs
def spLch : Sp := fun vs H Q _ => ∃ (l a : Addr) (secs : List Sec) (cars : List Car) (n o : Str), vs = [.ref l, .ref a, .str n, .str o] ∧ RunsAt H l secs ∧ TupsAt H a (cars.map Car.vs) ∧ SecsOk secs ∧ CarsOk cars ∧ cars.length ≤ 6 ∧ n ∈ names cars ∧ o ∈ names cars ∧
  ∀ H' v, Same H H' → LChV H' secs cars n o v → Q v H'
def nLc : List Str := ["_law_parts_here", "_law_cars_here", "_law_name", "_law_goal", "_law_drives", "_law_others", "_law_chains", "_law_step", "_law_chain_here", "_law_longer", "_law_car", "_law_led", "_law_row"]
theorem scLc : FnScope nLc ["_law_parts_here", "_law_cars_here", "_law_name", "_law_goal"] (defScope sChain) := ⟨rfl, rfl, rfl, by decide +kernel, rfl, by decide +kernel, by decide +kernel⟩
theorem TksAt.sm {H H' : Hp} {a : Addr} {secs : List Sec} {cars : List Car} (h : TksAt H a secs cars) (e : Same H H') : TksAt H' a secs cars := by
  obtain ⟨kt, a1, b1⟩ := h
  exact ⟨kt, e _ _ a1, fun c hc => let ⟨d, x, y⟩ := b1 c hc; ⟨d, x, e _ _ y⟩⟩
theorem LdsAt.sm {H H' : Hp} {a : Addr} {secs : List Sec} {cars : List Car} (h : LdsAt H a secs cars) (e : Same H H') : LdsAt H' a secs cars := by
  obtain ⟨ls, a1, b1, c1⟩ := h
  exact ⟨ls, e _ _ a1, b1, fun k d h => let ⟨kv, x, y⟩ := c1 k d h; ⟨kv, e _ _ x, y⟩⟩
theorem tk1L {α : Type} {l : List α} {i : Nat} {x : α} (h : l[i]? = some x) : l.take (i + 1) = l.take i ++ [x] := by
  rw [List.take_add_one, h]
  rfl
theorem chg_lt {secs : List Sec} {cars : List Car} {n : Str} (hn : n ∈ names cars) : (chgL secs cars n).length < cars.length := by
  unfold chgL chgC
  rw [List.length_map]
  obtain ⟨c, hc, rfl⟩ := List.mem_map.mp hn
  have := List.length_filter_lt_length_iff_exists (l := cars) (p := fun d => decide (d.name ≠ c.name) && !decide (tksL secs cars d.name = tksL secs (lessC cars c.name) d.name))
  exact this.mpr ⟨c, hc, by simp⟩
/-- those of the rest that change -/
def othT (secs : List Sec) (cars : List Car) (n : Str) (j : Nat) : List Str := (((lessC cars n).take j).filter fun c => !decide (tksL secs cars c.name = tksL secs (lessC cars n) c.name)).map (·.name)
theorem oth_all (secs : List Sec) (cars : List Car) (n : Str) : othT secs cars n (lessC cars n).length = chgL secs cars n := by
  unfold othT chgL chgC
  rw [List.take_length]
  unfold lessC
  rw [List.filter_filter]
  congr 1
  refine List.filter_congr fun c _ => ?_
  rw [Bool.and_comm]
theorem oth_len (secs : List Sec) (cars : List Car) (n : Str) (j : Nat) : (othT secs cars n j).length ≤ j := by
  unfold othT
  rw [List.length_map]
  refine Nat.le_trans (List.length_filter_le _ _) ?_
  rw [List.length_take]
  omega
section
variable {P : Program} {w : World} {K : PySem.W.Frag} {mg : Str → Option Value} {base : Heap}
theorem ok_lchain {f : Addr} {fd : FuncData} (F : Fun K "_law_chain" "_law_chain" sChain f fd) (M : Mg mg) (ID : ∃ f fd, Fb K mg "_law_driven" sDriven ["_law_parts_here", "_law_cars_here"] f fd ∧ FnOk P w K mg base CX0 2 f fd ["_law_parts_here", "_law_cars_here"] spDrivenW)
    (IR : ∃ f fd, Fb K mg "_law_rest" sRest ["_law_cars_here", "_law_name"] f fd ∧ FnOk P w K mg base CX0 1 f fd ["_law_cars_here", "_law_name"] spRest) : FnOk P w K mg base CX0 3 f fd ["_law_parts_here", "_law_cars_here", "_law_name", "_law_goal"] spLch := by
  refine F.ok scLc (fun vs H Q E h => ?_) (fun cdv A outer s H vs Q E hr h => ?_)
  · obtain ⟨l, a, secs, cars, n, o, rfl, _⟩ := h
    rfl
  · obtain ⟨l, a, secs, cars, n, o, rfl, hl, ha, SO, CO, c6, hn, ho, k⟩ := h
    have nd := scLc.nd
    have hu := hu_of hr
    have hu64 := hr.units
    obtain ⟨fD, dD, BD, GD⟩ := ID
    obtain ⟨fR, dR, BR, GR⟩ := IR
    have hr1 : Room 1 (A.deeper (PyProof.Rows.envOfC "_law_chain" (defScope sChain) s.heap.objs.size f cdv)) := hr.mono (by decide)
    have hr2 : Room 2 (A.deeper (PyProof.Rows.envOfC "_law_chain" (defScope sChain) s.heap.objs.size f cdv)) := hr
    refine ⟨_, (pss_cons (ps_set (i := 4) nd rfl (.inr rfl) (pe_lst (pa_cons (pe_call GD hr2 (by rfl) BD.at_ BD.fn.kp BD.bd .nil pass0 (pa_cons (pv 0) (pa_cons (pv 1) pa_nil))) (pa_cons (pe_call GD hr2 (by rfl) BD.at_ BD.fn.kp BD.bd .nil pass0 (pa_cons (pv 0) (pa_cons (pe_call GR hr1 (by rfl) BR.at_ BR.fn.kp BR.bd .nil pass0 (pa_cons (pv 1) (pa_cons (pv 2) pa_nil))) pa_nil))) pa_nil)))) (pss_cons (ps_setLc (i := 5) (own := [("_law_car", 10)]) (g := gName 10) (tt := tTest (tOp (rNeD K) (tDGet (tOp (rIxT K) (tOp (rIxL K) (tVar 4) (tC (.int 0))) (tC (.int 0))) (tOp (rIxT K) (tVar 10) (tC (.int 0)))) (tDGet (tOp (rIxT K) (tOp (rIxL K) (tVar 4) (tC (.int 1))) (tC (.int 0))) (tOp (rIxT K) (tVar 10) (tC (.int 0)))))) (te := tOp (rIxT K) (tVar 10) (tC (.int 0))) (by rfl) nd rfl rfl (sw_true rfl rfl rfl (by decide +kernel)) (pi_list (pe_call GR hr1 (by rfl) BR.at_ BR.fn.kp BR.bd .nil pass0 (pa_cons (pv 1) (pa_cons (pv 2) pa_nil)))) (blkOk_by (N := nLc) (sc := defScope sChain) (by decide +kernel)) (fun _ _ _ _ _ => (pg_name (i := 10) nd rfl (.inl rfl))) (fun _ _ _ _ _ => pts_one (pt_cmpR (op_neD hu64) (pe_dget hu (pe_ix (r := rIxT K) ix_tup (pe_ix (r := rIxL K) ix_list (pv 4) pe_int (fun _ _ => rfl)) pe_int (fun _ _ => rfl)) (pe_ix (r := rIxT K) ix_tup (pv 10) pe_int (fun _ _ => rfl)) (fun _ _ => rfl)) (pe_dget hu (pe_ix (r := rIxT K) ix_tup (pe_ix (r := rIxL K) ix_list (pv 4) pe_int (fun _ _ => rfl)) pe_int (fun _ _ => rfl)) (pe_ix (r := rIxT K) ix_tup (pv 10) pe_int (fun _ _ => rfl)) (fun _ _ => rfl)) (nomark _))) (fun _ _ _ _ _ => (pe_ix (r := rIxT K) ix_tup (pv 10) pe_int (fun _ _ => rfl)))) (pss_cons (ps_set (i := 6) nd rfl (.inl rfl) (pe_lst (pa_cons (pe_lst (pa_cons (pv 2) pa_nil)) pa_nil))) (pss_cons (ps_for PassesOwn.never rfl (pi_range1 (by rfl) M.range (pa_cons (pe_callB call_len_seq (by rfl) M.len boot_len (pa_cons (pv 1) pa_nil)) pa_nil)) (pg_name (i := 7) nd rfl (.inl rfl)) (pss_cons (ps_for PassesOwn.never rfl (pi_list (pv 6)) (pg_name (i := 8) nd rfl (.inl rfl)) (pss_one (ps_if (pt_cmpR op_eq (pe_ix ix_list (pv 8) (pe_un un_neg pe_int) (fun _ _ => rfl)) (pv 3) (nomark _)) (pss_one (ps_ret (pe_ifExp (pt_cmpR op_in_seq (pv 3) (pv 5) (by rfl)) (pv 8) pe_non))) pss_nil))) (pss_cons (ps_set (i := 9) nd rfl (.inl rfl) (pe_lst pa_nil)) (pss_cons (ps_for PassesOwn.never rfl (pi_list (pv 6)) (pg_name (i := 8) nd rfl (.inl rfl)) (pss_one (ps_for PassesOwn.never rfl (pi_list (pv 5)) (pg_name (i := 10) nd rfl (.inr rfl)) (pss_cons (ps_set (i := 11) nd rfl (.inl rfl) (pe_op op_cat (pe_lc (own := [("_law_row", 12)]) (g := gName 12) (tt := tYes) (te := tDGet1 (tVar 12) (tVar 10)) (by rfl) nd (pi_list (pe_ix ix_tup (pe_ix ix_list (pv 4) pe_int (fun _ _ => rfl)) pe_int (fun _ _ => rfl))) (blkOk_by (N := nLc) (sc := defScope sChain) (by decide +kernel)) (fun _ _ _ _ _ => (pg_name (i := 12) nd rfl (.inl rfl))) (fun _ _ _ _ _ => pts_nil) (fun _ _ _ _ _ => (pe_dget1 hu (pv 12) (pv 10) ⟨rfl, rfl, rfl, rfl⟩))) (pe_lc (own := [("_law_row", 12)]) (g := gName 12) (tt := tYes) (te := tDGet1 (tVar 12) (tVar 10)) (by rfl) nd (pi_list (pe_ix ix_tup (pe_ix ix_list (pv 4) pe_int (fun _ _ => rfl)) pe_int (fun _ _ => rfl))) (blkOk_by (N := nLc) (sc := defScope sChain) (by decide +kernel)) (fun _ _ _ _ _ => (pg_name (i := 12) nd rfl (.inl rfl))) (fun _ _ _ _ _ => pts_nil) (fun _ _ _ _ _ => (pe_dget1 hu (pv 12) (pv 10) ⟨rfl, rfl, rfl, rfl⟩))))) (pss_one (ps_if (PW.pt (pw_and (pt_cmpR op_notIn_seq (pv 10) (pv 8) (by rfl)) (pw_and1 (pt_cmpR op_in_seq (pe_ix ix_list (pv 8) (pe_un un_neg pe_int) (fun _ _ => rfl)) (pv 11) (by rfl))))) (pss_one (ps_expr (pe_bm PySem.F.plainAttrs_list PySem.F.slot_list_append PySem.F.type_list_append mt_append (pv 9) (pa_cons (pe_op op_cat (pv 8) (pe_lst (pa_cons (pv 10) pa_nil))) pa_nil)))) pss_nil)))))) (pss_one (ps_set (i := 6) nd rfl (.inl rfl) (pv 9))))))) (pss_one (ps_ret pe_non)))))), ?_⟩
    have few := CO.few
    have h12 := SO.few
    refine ⟨_, rfl, _, rfl, l, a, secs, cars, rfl, hl, ha, SO, CO, fun H1 t1 tk1 od1 ld1 s1 ht1 T1 _ L1 _ _ _ => ?_⟩
    refine ⟨_, rfl, _, rfl, _, rfl, a, cars, n, rfl, ha.same s1, few, fun H2 b s2 _ hb => ?_⟩
    refine ⟨l, b, secs, lessC cars n, rfl, hl.ext2 (ExtN.same (s1.trans s2)), hb, SO, less_ok CO n, fun H3 t2 tk2 od2 ld2 s3 ht2 T2 _ L2 _ _ _ => ?_⟩
    refine ⟨by show 2 ≤ sizeLine; decide, fun q hq => ?_⟩
    have s4 := sameNew hq (.lst [V.ref t1, V.ref t2])
    have hq4 : upd H3 q (.lst [V.ref t1, V.ref t2]) q = some (.lst [V.ref t1, V.ref t2]) := upd_same
    have s14 := s2.trans (s3.trans s4)
    have s04 := s1.trans s14
    have ht1 := s14 _ _ ht1
    have T1 := T1.sm s14
    have L1 := L1.sm s14
    have ht2 := s4 _ _ ht2
    have T2 := T2.sm s4
    have L2 := L2.sm s4
    have ha4 := ha.same s04
    generalize upd H3 q (.lst [V.ref t1, V.ref t2]) = H4 at hq4 s04 ht1 T1 L1 ht2 T2 L2 ha4 ⊢
    clear s1 s2 s3 s4 s14 hb hq ha hl
    -- others
    refine ⟨_, rfl, _, rfl, a, cars, n, rfl, ha4, few, fun H5 b s5 _ hbC => ?_⟩
    have s05 := s04.trans s5
    have hq5 := s5 _ _ hq4
    have ht1 := s5 _ _ ht1
    have T1 := T1.sm s5
    have L1 := L1.sm s5
    have ht2 := s5 _ _ ht2
    have T2 := T2.sm s5
    have L2 := L2.sm s5
    have ha5 := ha4.same s5
    clear s04 s5 hq4 ha4
    obtain ⟨ts, c1, c2, c3⟩ := hbC
    rw [List.length_map] at c2
    have hlt : (ts.map V.ref).length = (lessC cars n).length := by rw [List.length_map, c2]
    have lfew : (lessC cars n).length ≤ 10 := Nat.le_trans (List.length_filter_le _ _) few
    refine ⟨b, rfl, ⟨_, SqL.of c1⟩, fun D hD => ?_⟩
    refine lc_it walk_list (fun i H6 => Same H5 H6 ∧ H6 D = some (.lst ((othT secs cars n i).map V.str)))
      ⟨sameNew hD _, upd_same⟩ (fun i H6 _ ⟨k6, _⟩ => SqL.of (k6 _ _ c1)) ?_ ?_
    · rintro i y Hz H6 hi ⟨k6, hD6⟩ ⟨e, hy⟩
      subst e
      obtain ⟨t, ht, rfl⟩ : ∃ t, ts[i]? = some t ∧ y = V.ref t := by
        rw [List.getElem?_map] at hy
        obtain ⟨t, z1, z2⟩ := Option.map_eq_some_iff.mp hy
        exact ⟨t, z1, z2.symm⟩
      rw [hlt] at hi
      obtain ⟨c, hc⟩ : ∃ c, (lessC cars n)[i]? = some c := ⟨_, List.getElem?_eq_getElem hi⟩
      have hot := k6 _ _ (c3 i t c.vs ht (by rw [List.getElem?_map, hc]; rfl))
      have hcm := List.mem_of_getElem? hc
      have hcm0 := (List.mem_filter.mp hcm).1
      obtain ⟨kt1, z1, z2⟩ := T1
      obtain ⟨d1, z3, z4⟩ := z2 c hcm0
      obtain ⟨kt2, y1, y2⟩ := T2
      obtain ⟨d2, y3, y4⟩ := y2 c hcm
      refine ⟨rfl, ?_⟩
      refine ⟨_, rfl, q, _, _, _, rfl, rfl, SqL.of (k6 _ _ hq5), rfl, t1, _, _, _, rfl, rfl, SqT.of (k6 _ _ ht1), rfl, _, rfl, t, _, _, _, rfl, rfl, SqT.of hot, rfl, tk1, _, rfl, gk (k6 _ _ z1) z3, ?_⟩
      refine ⟨_, rfl, q, _, _, _, rfl, rfl, SqL.of (k6 _ _ hq5), rfl, t2, _, _, _, rfl, rfl, SqT.of (k6 _ _ ht2), rfl, _, rfl, t, _, _, _, rfl, rfl, SqT.of hot, rfl, tk2, _, rfl, gk (k6 _ _ y1) y3, ?_⟩
      refine ⟨_, _, dp_ints (k6 _ _ z4), dp_ints (k6 _ _ y4), (shp_intsD _).ok (by decide), (shp_intsD _).ok (by decide), ?_⟩
      rw [show PyData.eqv (intsD (tkl secs cars secs.length c.name)) (intsD (tkl secs (lessC cars n) secs.length c.name)) = decide (tksL secs cars c.name = tksL secs (lessC cars n) c.name) from eqv_intsL _ _]
      have hul := oth_len secs cars n i
      have e1 : othT secs cars n (i + 1) = othT secs cars n i ++ (if tksL secs cars c.name = tksL secs (lessC cars n) c.name then [] else [c.name]) := by
        unfold othT
        rw [tk1L hc, List.filter_append, List.map_append]
        by_cases h : tksL secs cars c.name = tksL secs (lessC cars n) c.name <;> simp [h]
      rw [e1, List.map_append]
      by_cases heq : tksL secs cars c.name = tksL secs (lessC cars n) c.name
      · rw [decide_eq_true heq, if_pos heq, List.map_nil, List.append_nil]
        exact ⟨_, rfl, iteF ⟨k6, hD6⟩⟩
      rw [decide_eq_false heq, if_neg heq]
      refine ⟨_, rfl, iteT ⟨_, rfl, t, _, _, _, rfl, rfl, SqT.of hot, rfl, _, hD6, small1000 (by rw [List.length_map]; omega), fun b o e => by rw [upd_ne (ne_of_none e hD)]; exact k6 _ _ e, upd_same⟩⟩
    rintro H8 ⟨k8, hD8⟩
    rw [hlt, oth_all] at hD8
    have s08 := s05.trans k8
    have hq8 := k8 _ _ hq5
    have ht1 := k8 _ _ ht1
    have L1 := L1.sm k8
    have ht2 := k8 _ _ ht2
    have L2 := L2.sm k8
    have ha8 := ha5.same k8
    clear k8 s05 hq5 T1 T2 ha5 c1 c3 hD
    have hm : n ∉ chgL secs cars n := fun z => (chg_of z).1 rfl
    have hR := chain_reach (secs := secs) CO n
    have hl6 : (chgL secs cars n).length < cars.length := by
      have := chg_lt (secs := secs) hn
      exact this
    obtain ⟨ls1, p1, p2, p3⟩ := L1
    obtain ⟨ls2, r1, r2, r3⟩ := L2
    have hllen : ∀ u, (ldl secs cars n u).length ≤ 24 := fun u => by unfold ldl; rw [List.length_append, ldA_len, ldA_len]; omega
    refine ⟨_, rfl, by show 1 ≤ sizeLine; decide, fun q0 hq0 => ⟨by show 1 ≤ sizeLine; decide, fun q1 hq1 => ?_⟩⟩
    have y0 := sameNew hq0 (.lst [V.str n])
    have y1 := y0.trans (sameNew hq1 (.lst [V.ref q0]))
    have LV0 : LvAt (upd (upd H8 q0 (.lst [V.str n])) q1 (.lst [V.ref q0])) q1 (pth (chgL secs cars n) (leadB secs cars n) n 0) := by
      have n01 : q0 ≠ q1 := fun z => by rw [← z, upd_same] at hq1; cases hq1
      refine ⟨[q0], upd_same, rfl, fun i t d e1 e2 => ?_⟩
      match i, e1, e2 with
      | 0, e1, e2 =>
        cases Option.some.inj e1
        cases Option.some.inj e2
        exact ⟨n01, sameNew hq1 _ _ _ upd_same⟩
    generalize upd (upd H8 q0 (.lst [V.str n])) q1 (.lst [V.ref q0]) = H9 at y1 LV0 ⊢
    clear y0 hq0 hq1
    obtain ⟨ta, a1, a2, a3⟩ := ha8
    rw [List.length_map] at a2
    refine ⟨_, rfl, a, _, rfl, .inl (SqL.of (y1 _ _ a1)), ?_⟩
    rw [List.length_map, a2]
    refine ⟨_, rfl, by omega, by omega, ?_⟩
    rw [Int.toNat_natCast]
    generalize hCG : chgL secs cars n = cg at *
    refine for_it walk_range (fun k σ H => ∃ v7 v8 v9 v10 v11 lv, σ = [some (.ref l), some (.ref a), some (.str n), some (.str o), some (.ref q), some (.ref D), some (.ref lv), v7, v8, v9, v10, v11, none] ∧ Same H8 H ∧ LvAt H lv (pth cg (leadB secs cars n) n k) ∧ ∀ i, i < k → o ∉ keysC (pth cg (leadB secs cars n) n i))
      ⟨none, none, none, none, none, q1, rfl, y1, LV0, fun i hi => absurd hi (Nat.not_lt_zero i)⟩ (fun _ _ _ _ _ => True.intro) ?_ ?_
    rotate_left
    · rintro σ H9 ⟨v7, v8, v9, v10, v11, lv, rfl, s9, _, hno⟩
      refine k H9 .non (s08.trans s9) (.inl ⟨rfl, fun z => ?_⟩)
      rw [hCG] at z
      exact first_there cg _ n hm hR hl6 z hno
    clear y1 LV0
    rintro kx x σ Hz H9 hk ⟨v7, v8, v9, v10, v11, lv, rfl, s9, LV, hno⟩ ⟨e, ex⟩
    subst e ex
    obtain ⟨us, u1, u2, u3⟩ := id LV
    have hpok := pth_ok cg (leadB secs cars n) n kx
    have hpl := pth_len cg (leadB secs cars n) n (by omega) kx
    have hk6 : 6 ^ kx ≤ 46656 := Nat.le_trans (Nat.pow_le_pow_right (by decide) (show kx ≤ 6 by omega)) (by decide)
    have hel := extP_len cg (leadB secs cars n)
    have hfi := fun (A B : List Ch) (c : Ch) => @first_is cg (leadB secs cars n) n hm kx A B c
    generalize hpe : pth cg (leadB secs cars n) n kx = P0 at *
    have hpe1 : pth cg (leadB secs cars n) n (kx + 1) = extP cg (leadB secs cars n) P0 := by rw [← hpe]; rfl
    have hlast : ∀ {i : Nat} {d : Ch}, P0[i]? = some d → ∃ pre, d.2 = pre ++ [d.1] ∧ d.2.length = kx + 1 := fun hd => by
      obtain ⟨⟨pre, hpre⟩, hdl⟩ := hpok _ (List.mem_of_getElem? hd)
      exact ⟨pre, hpre, hdl⟩
    -- is one of them the goal's
    refine ⟨_, rfl, lv, rfl, ⟨_, SqL.of u1⟩, for_it walk_list (fun i σ H => ∃ v8, σ = [some (.ref l), some (.ref a), some (.str n), some (.str o), some (.ref q), some (.ref D), some (.ref lv), some (.int (0 + (kx : Nat))), v8, v9, v10, v11, none] ∧ H = H9 ∧ o ∉ keysC (P0.take i))
      ⟨_, rfl, rfl, fun z => nomatch z⟩ (fun i σ H _ ⟨_, _, e, _⟩ => SqL.of (by rw [e]; exact u1)) ?_ ?_⟩
    · rintro i y σ Hz H10 hi ⟨v8', rfl, e10, hnt⟩ ⟨e, hy⟩
      subst e e10
      rw [List.length_map, u2] at hi
      obtain ⟨t, ht, rfl⟩ : ∃ t, us[i]? = some t ∧ y = V.ref t := by
        rw [List.getElem?_map] at hy
        obtain ⟨t, z1, z2⟩ := Option.map_eq_some_iff.mp hy
        exact ⟨t, z1, z2.symm⟩
      obtain ⟨d, hd⟩ : ∃ d, P0[i]? = some d := ⟨_, List.getElem?_eq_getElem hi⟩
      obtain ⟨pre, hpre, hdl⟩ := hlast hd
      have htl := (u3 i t d ht hd).2
      have hlst : (d.2.map V.str) = pre.map V.str ++ [V.str d.1] := by rw [hpre, List.map_append]; rfl
      refine ⟨_, rfl, _, rfl, t, _, _, .str d.1, rfl, rfl, SqL.of (by rw [htl, hlst]), atI_last _ _, _, rfl, rfl, _, rfl, ?_⟩
      by_cases hdo : d.1 = o
      · rw [show decide (V.str d.1 = V.str o) = true by simp [hdo]]
        refine iteT ⟨_, rfl, _, rfl, D, _, rfl, .inl (SqL.of (s9 _ _ hD8)), rfl, flat_strs _, _, rfl, ?_⟩
        rw [show (if false = true then !inV (V.str o) (cg.map V.str) else inV (V.str o) (cg.map V.str)) = decide (o ∈ cg) by rw [inV_str]; rfl]
        by_cases hin : o ∈ cg
        · rw [decide_eq_true hin]
          refine iteT ⟨_, rfl, k _ _ (s08.trans s9) (.inr ⟨t, d.2, rfl, by rw [hCG]; exact hin, htl, by omega, fun kk c hc ec => ?_⟩)⟩
          rw [hCG] at hc
          have eP : P0 = P0.take i ++ d :: P0.drop (i + 1) := by
            have := List.getElem?_eq_some_iff.mp hd
            obtain ⟨h1, h2⟩ := this
            rw [← h2, ← List.drop_eq_getElem_cons h1, List.take_append_drop]
          exact hfi _ _ d eP (by rw [hdo]; exact hnt) (by rw [hdo]; exact hno) (by rw [hdo]; exact hin) hc (by rw [ec, hdo])
        · rw [decide_eq_false hin]
          exact iteF (k _ _ (s08.trans s9) (.inl ⟨rfl, by rw [hCG]; exact hin⟩))
      · rw [show decide (V.str d.1 = V.str o) = false by simp [hdo]]
        refine iteF ⟨_, rfl, rfl, fun z => ?_⟩
        rw [tk1L hd] at z
        unfold keysC at z
        rw [List.map_append] at z
        rcases List.mem_append.mp z with z | z
        · exact hnt z
        · exact hdo (List.mem_singleton.mp z).symm
    rintro σ H10 ⟨v8', rfl, e10, hnt⟩
    subst e10
    rw [List.length_map, u2, List.take_length] at hnt
    have hno' : ∀ i, i < kx + 1 → o ∉ keysC (pth cg (leadB secs cars n) n i) := fun i hi => by
      by_cases h : i < kx
      · exact hno i h
      · rw [show i = kx by omega, hpe]
        exact hnt
    clear hno hnt hfi
    refine ⟨Nat.zero_le _, fun lg hlg => ?_⟩
    have g9 := sameNew hlg (.lst [])
    have G9 : LvAt (upd H10 lg (.lst [])) lg (extP cg (leadB secs cars n) (P0.take 0)) := ⟨[], upd_same, rfl, fun i t d e1 e2 => by simp at e1⟩
    generalize upd H10 lg (.lst []) = H11 at g9 G9 ⊢
    have hq10 := s9 _ _ hq8
    have ht1 := s9 _ _ ht1
    have ht2 := s9 _ _ ht2
    have p1 := s9 _ _ p1
    have r1 := s9 _ _ r1
    have hD10 := s9 _ _ hD8
    refine ⟨_, rfl, lv, rfl, ⟨_, SqL.of (g9 _ _ u1)⟩, for_it walk_list (fun i σ H => ∃ v8 v10 v11, σ = [some (.ref l), some (.ref a), some (.str n), some (.str o), some (.ref q), some (.ref D), some (.ref lv), some (.int (0 + (kx : Nat))), v8, some (.ref lg), v10, v11, none] ∧ Same H10 H ∧ LvAt H lg (extP cg (leadB secs cars n) (P0.take i)))
      ⟨_, _, _, rfl, g9, G9⟩ (fun i σ H _ ⟨_, _, _, _, e, _⟩ => SqL.of (e _ _ u1)) ?_ ?_⟩
    rotate_left
    · rintro σ H11 ⟨_, _, _, rfl, s11, G11⟩
      rw [List.length_map, u2, List.take_length, ← hpe1] at G11
      exact ⟨_, rfl, _, _, _, _, _, _, rfl, s9.trans s11, G11, hno'⟩
    clear g9 G9
    rintro i y σ Hz H11 hi ⟨v8', v10', v11', rfl, s10, G10⟩ ⟨e, hy⟩
    subst e
    rw [List.length_map, u2] at hi
    obtain ⟨t, ht, rfl⟩ : ∃ t, us[i]? = some t ∧ y = V.ref t := by
      rw [List.getElem?_map] at hy
      obtain ⟨t, z1, z2⟩ := Option.map_eq_some_iff.mp hy
      exact ⟨t, z1, z2.symm⟩
    obtain ⟨d, hd⟩ : ∃ d, P0[i]? = some d := ⟨_, List.getElem?_eq_getElem hi⟩
    obtain ⟨pre, hpre, hdl⟩ := hlast hd
    have htl := (u3 i t d ht hd).2
    have hlst : (d.2.map V.str) = pre.map V.str ++ [V.str d.1] := by rw [hpre, List.map_append]; rfl
    have hti := hel (P0.take i)
    have hti2 : (P0.take i).length ≤ 46656 := by rw [List.length_take]; omega
    have hti3 : (P0.take i).length * cg.length ≤ 46656 * 6 := Nat.mul_le_mul hti2 (by omega)
    refine ⟨_, rfl, D, rfl, ⟨_, SqL.of (s10 _ _ hD10)⟩, for_it walk_list (fun j σ H => ∃ v10 v11, σ = [some (.ref l), some (.ref a), some (.str n), some (.str o), some (.ref q), some (.ref D), some (.ref lv), some (.int (0 + (kx : Nat))), some (.ref t), some (.ref lg), v10, v11, none] ∧ Same H10 H ∧ LvAt H lg (extP cg (leadB secs cars n) (P0.take i) ++ ((cg.take j).filter fun v => !decide (v ∈ d.2) && leadB secs cars n d.1 v).map fun v => (v, d.2 ++ [v])))
      ⟨_, _, rfl, s10, by rw [show ((cg.take 0).filter fun v => !decide (v ∈ d.2) && leadB secs cars n d.1 v).map (fun v => (v, d.2 ++ [v])) = [] from rfl, List.append_nil]; exact G10⟩ (fun i σ H _ ⟨_, _, _, e, _⟩ => SqL.of (e _ _ hD10)) ?_ ?_⟩
    rotate_left
    · rintro σ H12 ⟨_, _, rfl, s11, G11⟩
      rw [List.length_map, List.take_length] at G11
      refine ⟨_, _, _, rfl, s11, ?_⟩
      have ee : extP cg (leadB secs cars n) (P0.take (i + 1)) = extP cg (leadB secs cars n) (P0.take i) ++ (cg.filter fun v => !decide (v ∈ d.2) && leadB secs cars n d.1 v).map fun v => (v, d.2 ++ [v]) := by
        rw [tk1L hd]
        unfold extP
        rw [List.flatMap_append]
        simp [ext2]
      rw [ee]
      exact G11
    clear s10 G10
    rintro j y σ Hz H12 hj ⟨v10', v11', rfl, s12, G12⟩ ⟨e, hy⟩
    subst e
    rw [List.length_map] at hj
    obtain ⟨u, hu1, rfl⟩ : ∃ u, cg[j]? = some u ∧ y = V.str u := by
      rw [List.getElem?_map] at hy
      obtain ⟨t, z1, z2⟩ := Option.map_eq_some_iff.mp hy
      exact ⟨t, z1, z2.symm⟩
    have es : ((cg.take (j + 1)).filter fun v => !decide (v ∈ d.2) && leadB secs cars n d.1 v).map (fun v => ((v, d.2 ++ [v]) : Ch)) = ((cg.take j).filter fun v => !decide (v ∈ d.2) && leadB secs cars n d.1 v).map (fun v => (v, d.2 ++ [v])) ++ if (!decide (u ∈ d.2) && leadB secs cars n d.1 u) = true then [(u, d.2 ++ [u])] else [] := by
      rw [tk1L hu1, List.filter_append, List.map_append]
      cases hb : (!decide (u ∈ d.2) && leadB secs cars n d.1 u) <;> simp [hb]
    have hfl : (((cg.take j).filter fun v => !decide (v ∈ d.2) && leadB secs cars n d.1 v).map fun v => ((v, d.2 ++ [v]) : Ch)).length ≤ 6 := by
      rw [List.length_map]
      refine Nat.le_trans (List.length_filter_le _ _) ?_
      rw [List.length_take]
      omega
    rw [es, ← List.append_assoc]
    -- the leaders
    refine ⟨_, rfl, q, _, _, _, rfl, rfl, SqL.of (s12 _ _ hq10), rfl, t1, _, _, _, rfl, rfl, SqT.of (s12 _ _ ht1), rfl, ld1, rfl, ⟨_, SqL.of (s12 _ _ p1)⟩, fun D1 hD1 => ?_⟩
    refine lc_it walk_list (fun i H => Same H12 H ∧ H D1 = some (.lst (ldA secs cars u i)))
      ⟨sameNew hD1 _, upd_same⟩ (fun i H _ ⟨k1, _⟩ => SqL.of (k1 _ _ (s12 _ _ p1))) ?_ ?_
    · rintro i y Hz H13 hi ⟨k13, hL⟩ ⟨e, hy⟩
      subst e
      rw [List.length_map, p2] at hi
      obtain ⟨t', ht', rfl⟩ : ∃ t, ls1[i]? = some t ∧ y = V.ref t := by
        rw [List.getElem?_map] at hy
        obtain ⟨t, z1, z2⟩ := Option.map_eq_some_iff.mp hy
        exact ⟨t, z1, z2.symm⟩
      obtain ⟨kv, x1, x2⟩ := p3 i t' ht'
      have x1' := k13 _ _ (s12 _ _ (s9 _ _ x1))
      have eo : ((ldrC secs cars i u).map V.str).getD .non = strO (ldrC secs cars i u) := by cases ldrC secs cars i u <;> rfl
      refine ⟨rfl, yes_of ⟨_, rfl, t', rfl, .inl ⟨_, .inl x1'⟩, _, rfl, _, gk0 x1' (x2 u), ?_⟩⟩
      rw [eo]
      exact ⟨_, hL, by rw [ldA_len]; exact small1000 (by omega), fun b e e2 => by rw [upd_ne (ne_of_none e2 hD1)]; exact k13 _ _ e2, by rw [upd_same, ldA_succ]⟩
    rintro H13 ⟨k13, hL1⟩
    rw [List.length_map, p2] at hL1
    have s13 := s12.trans k13
    refine ⟨_, rfl, q, _, _, _, rfl, rfl, SqL.of (s13 _ _ hq10), rfl, t2, _, _, _, rfl, rfl, SqT.of (s13 _ _ ht2), rfl, ld2, rfl, ⟨_, SqL.of (s13 _ _ r1)⟩, fun D2 hD2 => ?_⟩
    refine lc_it walk_list (fun i H => Same H13 H ∧ H D2 = some (.lst (ldA secs (lessC cars n) u i)))
      ⟨sameNew hD2 _, upd_same⟩ (fun i H _ ⟨k1, _⟩ => SqL.of (k1 _ _ (s13 _ _ r1))) ?_ ?_
    · rintro i y Hz H14 hi ⟨k14, hL⟩ ⟨e, hy⟩
      subst e
      rw [List.length_map, r2] at hi
      obtain ⟨t', ht', rfl⟩ : ∃ t, ls2[i]? = some t ∧ y = V.ref t := by
        rw [List.getElem?_map] at hy
        obtain ⟨t, z1, z2⟩ := Option.map_eq_some_iff.mp hy
        exact ⟨t, z1, z2.symm⟩
      obtain ⟨kv, x1, x2⟩ := r3 i t' ht'
      have x1' := k14 _ _ (s13 _ _ (s9 _ _ x1))
      have eo : ((ldrC secs (lessC cars n) i u).map V.str).getD .non = strO (ldrC secs (lessC cars n) i u) := by cases ldrC secs (lessC cars n) i u <;> rfl
      refine ⟨rfl, yes_of ⟨_, rfl, t', rfl, .inl ⟨_, .inl x1'⟩, _, rfl, _, gk0 x1' (x2 u), ?_⟩⟩
      rw [eo]
      exact ⟨_, hL, by rw [ldA_len]; exact small1000 (by omega), fun b e e2 => by rw [upd_ne (ne_of_none e2 hD2)]; exact k14 _ _ e2, by rw [upd_same, ldA_succ]⟩
    rintro H14 ⟨k14, hL2⟩
    rw [List.length_map, r2] at hL2
    refine ⟨D1, D2, _, _, rfl, rfl, k14 _ _ hL1, hL2, by rw [ldA_len, ldA_len]; exact Nat.le_of_lt (small1000 (by omega)), fun x hx => ?_⟩
    have s15 := k13.trans (k14.trans (sameNew hx (.lst (ldA secs cars u secs.length ++ ldA secs (lessC cars n) u secs.length))))
    have hx15 : upd H14 x (.lst (ldA secs cars u secs.length ++ ldA secs (lessC cars n) u secs.length)) x = some (.lst (ldl secs cars n u)) := upd_same
    generalize upd H14 x (.lst (ldA secs cars u secs.length ++ ldA secs (lessC cars n) u secs.length)) = H15 at s15 hx15 ⊢
    clear hL1 hL2 s13 k13 k14 hx hD1 hD2
    have G15 := G12.same s15
    have s16 := s12.trans s15
    have ht15 := s16 _ _ htl
    clear G12 s12 s15
    refine ⟨_, rfl, _, rfl, t, _, rfl, .inl (SqL.of ht15), rfl, flat_strs _, _, rfl, ?_⟩
    rw [show (if true = true then !inV (V.str u) (d.2.map V.str) else inV (V.str u) (d.2.map V.str)) = !decide (u ∈ d.2) by rw [inV_str]; rfl]
    by_cases hin : u ∈ d.2
    · rw [decide_eq_true hin, if_neg (by simp), List.append_nil]
      exact iteF (iteF ⟨_, _, rfl, s16, G15⟩)
    rw [decide_eq_false hin]
    refine iteT ?_
    refine ⟨_, rfl, _, rfl, t, _, _, .str d.1, rfl, rfl, SqL.of (by rw [ht15, hlst]), atI_last _ _, _, rfl, x, _, rfl, .inl (SqL.of hx15), rfl, ldl_flat _ _ _ _, _, rfl, ?_⟩
    rw [show (if false = true then !inV (V.str d.1) (ldl secs cars n u) else inV (V.str d.1) (ldl secs cars n u)) = leadB secs cars n d.1 u by rw [ldl_in]; rfl]
    cases hb : leadB secs cars n d.1 u with
    | false =>
      rw [show (if (!false && false) = true then [((u, d.2 ++ [u]) : Ch)] else []) = [] from rfl, List.append_nil]
      exact iteF ⟨_, _, rfl, s16, G15⟩
    | true =>
      rw [show (if (!false && true) = true then [((u, d.2 ++ [u]) : Ch)] else []) = [(u, d.2 ++ [u])] from rfl]
      obtain ⟨gs, g1, g2, g3⟩ := id G15
      refine iteT ⟨_, rfl, .inl ⟨rfl, _, SqL.of g1⟩, ?_⟩
      refine ⟨_, rfl, _, rfl, by show 1 ≤ sizeLine; decide, fun q' hq' => ?_⟩
      have s17 := sameNew hq' (.lst [V.str u])
      refine ⟨t, q', _, _, rfl, rfl, s17 _ _ ht15, upd_same, by rw [List.length_map, hdl]; exact Nat.le_of_lt (small1000 (by show kx + 1 + 1 ≤ 1000; omega)), fun z hz => ?_⟩
      have s18 := s17.trans (sameNew hz (.lst (d.2.map V.str ++ [V.str u])))
      have hxx : upd (upd H15 q' (.lst [V.str u])) z (.lst (d.2.map V.str ++ [V.str u])) z = some (.lst ((d.2 ++ [u]).map V.str)) := by rw [upd_same, List.map_append]; rfl
      have nxl : z ≠ lg := fun e => by
        have := s17 _ _ g1
        rw [← e, hz] at this
        cases this
      generalize upd (upd H15 q' (.lst [V.str u])) z (.lst (d.2.map V.str ++ [V.str u])) = H18 at s18 hxx ⊢
      refine ⟨lg, _, _, rfl, rfl, s18 _ _ g1, ?_, ?_⟩
      · rw [List.length_map, g2, List.length_append]
        exact Nat.lt_of_le_of_lt (show _ ≤ 46656 * 6 + 6 by omega) (by decide)
      · refine ⟨_, _, rfl, fun b ob e => ?_, LvAt.push (s18 _ _ g1) g2 (fun i t c e1 e2 => ⟨(g3 i t c e1 e2).1, s18 _ _ (g3 i t c e1 e2).2⟩) nxl hxx⟩
        rw [upd_ne (ne_of_none e hlg)]
        exact s18 _ _ (s16 _ _ e)
end
end Sl

set_option Elab.async false
set_option linter.all false
set_option maxRecDepth 100000
set_option maxHeartbeats 2000000
namespace L2
open PySem PySem.Spec
/-- a def that raises nothing, and one that may: either promise -/
theorem FnOk.orX {P : Program} {w : World} {K : PySem.W.Frag} {mg : Str → Option Value} {base : Heap} {CX : CXT} {k : Nat} {f : Addr} {fd : FuncData} {ps : List Str} {sp sp' : Sp} (F : FnOk P w K mg base CX0 k f fd ps sp) (G : FnOk P w K mg base CX k f fd ps sp') :
    FnOk P w K mg base CX k f fd ps (fun vs H Q E => sp vs H Q E ∨ sp' vs H Q E) where
  len := fun vs H Q E h => h.elim (F.len vs H Q E) (G.len vs H Q E)
  run := fun A outer s H args us vs Q E hr e0 hb hv h => by
    rcases h with h | h
    · refine codeAny_mono (F.run A outer s H args us vs Q E hr e0 hb hv h) fun r s' z => ?_
      cases r with
      | ok f => cases f <;> exact z
      | error e => exact z.elim
    · exact G.run A outer s H args us vs Q E hr e0 hb hv h
end L2
namespace Sl
open PySem PySem.Spec L2 OwnR LamX
section
variable {P : Program} {w : World} {K : PySem.W.Frag} {mg : Str → Option Value} {base : Heap}
/-! ### UnknownCar(name) -/
def spUInit (C : Addr) : Sp := fun vs H Q _ => ∃ (a : Addr) (v : V), vs = [.ref a, v] ∧ H a = some (exo a C none) ∧ ∀ dx, H dx = none → dx ≠ a → Q .non (upd (upd H dx (exd dx [("name", v)])) a (exo a C (some dx)))
def nUInit : List Str := ["self", "name"]
theorem scUInit : FnScope nUInit ["self", "name"] (defScope sUnknownCarInit) := ⟨rfl, rfl, rfl, by decide +kernel, rfl, by decide +kernel, by decide +kernel⟩
theorem ok_uInit {f C : Addr} {fd : FuncData} (F : Fun K "__init__" "UnknownCar.__init__" sUnknownCarInit f fd) (T : OexC K C) (hno : PySem.W.findIn K (.ref C) "name" = some none) : FnOk P w K mg base CX0 1 f fd ["self", "name"] (spUInit C) := by
  refine F.ok scUInit (fun vs H Q E h => ?_) (fun cdv A outer s H vs Q E hr h => ?_)
  · obtain ⟨a, v, rfl, _⟩ := h
    rfl
  · obtain ⟨a, v, rfl, ha, k⟩ := h
    have nd := scUInit.nd
    refine ⟨_, pss_one (ps_ost (pv 0) (pv 1)), ?_⟩
    exact ⟨_, rfl, _, rfl, a, C, rfl, T, hno, .inl ⟨ha, fun dx h1 h2 => k dx h1 h2⟩⟩
/-- an own class of errors with an __init__ of its own -/
structure ErrO (P : Program) (w : World) (K : PySem.W.Frag) (mg : Str → Option Value) (base : Heap) (x : Str) (C : Addr) : Prop where
  T : OexC K C
  g : mg x = some (.ref C)
  init : ∃ fI fd ps, PySem.W.findIn K (.ref C) "__init__" = some (some (.ref fI)) ∧ PySem.W.typeIn K (.ref fI) = some (.type "function") ∧ Binds K fd ps [] ∧ FnOk P w K mg base CX0 1 fI fd ps (spUInit C)
/-! ### check_known, of anything -/
/-- the error that it raises -/
def KnE (CU : Addr) (n : Str) (H : Hp) (E : XK) : Prop := ∀ H' d fs, Same H H' → H' d = some (.xd fs) → fs.lookup ("name" : Str) = some (.str n) → E (.ref CU) (some d) H'
def spKnownX (CU : Addr) : Sp := fun vs H Q E => ∃ (a : Addr) (cars : List Car) (n : Str), vs = [.ref a, .str n] ∧ CarsAt H a cars ∧ CarsOk cars ∧ (n ∈ names cars → ∀ H', Same H H' → Q .non H') ∧ (n ∉ names cars → KnE CU n H E)
theorem ok_knownX {f CU : Addr} {fd : FuncData} (F : Fun K "check_known" "check_known" sCheckKnown f fd) (W : ErrO P w K mg base "UnknownCar" CU) : FnOk P w K mg base (L2.CX P w) 3 f fd ["cars", "name"] (spKnownX CU) := by
  refine F.okX scKnown (fun vs H Q E h => ?_) (fun cdv A outer s H vs Q E hr h => ?_)
  · obtain ⟨a, cars, n, rfl, _⟩ := h
    rfl
  · obtain ⟨a, cars, n, rfl, hC, CO, k, kE⟩ := h
    have nd := scKnown.nd
    obtain ⟨fI, dI, ps, w1, w2, w3, w4⟩ := W.init
    refine ⟨_, pss_one (ps_if (PT.nox (pt_cmpR op_notIn_seq (pv 1) (pe_lc (own := [("known", 2), ("start", 3), ("pace", 4)]) (g := gTup K 3 (gCons (gName 2) (gCons (gName 3) (gCons (gName 4) gNil)))) (tt := tYes) (te := tVar 2) (by rfl) nd (pi_tup (pv 0)) (blkOk_by (N := nKnown) (sc := defScope sCheckKnown) (by decide +kernel))
          (fun _ _ _ _ _ => pg_tup rfl (pgs_cons (pg_name (i := 2) nd rfl (Or.inl rfl)) (pgs_cons (pg_name (i := 3) nd rfl (Or.inl rfl)) (pgs_cons (pg_name (i := 4) nd rfl (Or.inl rfl)) pgs_nil)))) (fun _ _ _ _ _ => pts_nil) (fun _ _ _ _ _ => pv 2)) (by rfl)))
      (pss_one (ps_raise rfl (takes_of rfl rfl rfl rfl) (pmk_oex W.T w1 w2 w4 hr w3 .nil pass0 (by rfl) W.g (pa_cons (pv 1) pa_nil)))) pss_nil), ?_⟩
    obtain ⟨ts, h1, h2, h3⟩ := hC
    have hl : (ts.map V.ref).length = cars.length := by rw [List.length_map, h2]
    refine ⟨_, rfl, _, rfl, a, rfl, ⟨_, SqT.of h1⟩, fun D hD => ?_⟩
    refine lc_it walk_tup (fun i H1 => Same H H1 ∧ H1 D = some (.lst (((cars.take i).map (·.name)).map V.str)))
      ⟨sameNew hD _, upd_same⟩ (fun i H1 _ ⟨k1, _⟩ => SqT.of (k1 _ _ h1)) ?_ ?_
    · rintro i y Hz H1 hi ⟨k1, hD1⟩ ⟨e, hy⟩
      subst e
      obtain ⟨t, ht, rfl⟩ : ∃ t, ts[i]? = some t ∧ y = V.ref t := by
        rw [List.getElem?_map] at hy
        obtain ⟨t, z1, z2⟩ := Option.map_eq_some_iff.mp hy
        exact ⟨t, z1, z2.symm⟩
      rw [hl] at hi
      obtain ⟨c, hc⟩ : ∃ c, cars[i]? = some c := ⟨_, List.getElem?_eq_getElem hi⟩
      have few := CO.few
      refine ⟨t, _, rfl, SqT.of (k1 _ _ (h3 i t c ht hc)), rfl, _, _, rfl, _, _, rfl, _, _, rfl, rfl, rfl, yes_of ?_⟩
      refine ⟨_, rfl, _, hD1, by rw [List.length_map, List.length_map, List.length_take]; exact small1000 (by omega), fun b o e => by rw [upd_ne (ne_of_none e hD)]; exact k1 _ _ e, ?_⟩
      rw [upd_same, tk1 hc, List.map_append, List.map_append]
      rfl
    · rintro H1 ⟨k1, hD1⟩
      rw [hl, List.take_length] at hD1
      refine ⟨D, _, rfl, .inl (SqL.of hD1), rfl, flat_strs _, _, rfl, ?_⟩
      by_cases hn : n ∈ names cars
      · have : inV (V.str n) ((cars.map (·.name)).map V.str) = true := by rw [inV_str]; exact decide_eq_true hn
        rw [this]
        exact iteF (k hn _ k1)
      · have : inV (V.str n) ((cars.map (·.name)).map V.str) = false := by rw [inV_str]; exact decide_eq_false hn
        rw [this]
        refine iteT ⟨_, rfl, by show 1 ≤ 1000; decide, fun a2 ha2 => ⟨a2, .str n, rfl, upd_same, fun dx hdx ne => ⟨rfl, dx, [("name", V.str n)], upd_same, ?_, ?_, ?_⟩⟩⟩
        · rw [upd_ne ne, upd_same]
        · rw [upd_ne ne] at hdx
          exact hdx
        · have hdx1 : H1 dx = none := by rw [upd_ne ne] at hdx; exact hdx
          refine kE hn _ dx [("name", V.str n)] (fun b o e => ?_) upd_same rfl
          have nb : b ≠ dx := fun z => by rw [z] at e; have := k1 _ _ e; rw [hdx1] at this; cases this
          have na : b ≠ a2 := fun z => by rw [z] at e; have := k1 _ _ e; rw [ha2] at this; cases this
          rw [upd_ne nb, del_ne na, upd_ne na, upd_ne nb, upd_ne na]
          exact k1 _ _ e
/-! ### chain_between, of any other car -/
def spChainU (CR CU : Addr) (T : List (Addr × Str)) : Sp := fun vs H Q E => ∃ (p a : Addr) (secs : List Sec) (cars : List Car) (n o : Str), vs = [.ref p, .ref a, .str n, .str o] ∧ RC CR T H p a secs cars ∧ n ∈ names cars ∧ o ∉ names cars ∧ KnE CU o H E
theorem ok_chainU {f CR C CU : Addr} {fd : FuncData} {T : List (Addr × Str)} (F : Fun K "chain_between" "chain_between" sChainBetween f fd) (IC : ∃ f fd, Fb K mg "check_cars" sCheckCars ["cars"] f fd ∧ FnOk P w K mg base CX0 3 f fd ["cars"] spCheckCars)
    (IK : ∃ f fd, Fb K mg "check_known" sCheckKnown ["cars", "name"] f fd ∧ FnOk P w K mg base (L2.CX P w) 3 f fd ["cars", "name"] (spKnownX CU)) : FnOk P w K mg base (L2.CX P w) 7 f fd ["road", "cars", "name", "other"] (spChainU CR CU T) := by
  refine F.okX scChain (fun vs H Q E h => ?_) (fun cdv A outer s H vs Q E hr h => ?_)
  · obtain ⟨p, a, secs, cars, n, o, rfl, _⟩ := h
    rfl
  · obtain ⟨p, a, secs, cars, n, o, rfl, A0, hn, ho, kE⟩ := h
    have nd := scChain.nd
    obtain ⟨fK, dK, BK, GK⟩ := IC
    obtain ⟨fN, dN, BN, GN⟩ := IK
    have hr3 : Room 3 (A.deeper (PyProof.Rows.envOfC "chain_between" (defScope sChainBetween) s.heap.objs.size f cdv)) := hr.mono (by decide)
    refine ⟨_, pss_cons (ps_expr (pe_call GK hr3 (by rfl) BK.at_ BK.fn.kp BK.bd .nil pass0 (pa_cons (pv 1) pa_nil)))
      (pss_cons (ps_expr (pe_call GN hr3 (by rfl) BN.at_ BN.fn.kp BN.bd .nil (passes_call (takes_of rfl rfl rfl rfl) fun _ _ _ _ h => h) (pa_cons (pv 1) (pa_cons (pv 2) pa_nil))))
      (pss_cons (ps_expr (pe_call GN hr3 (by rfl) BN.at_ BN.fn.kp BN.bd .nil (passes_call (takes_of rfl rfl rfl rfl) fun _ _ _ _ h => h) (pa_cons (pv 1) (pa_cons (pv 3) pa_nil)))) pss_never)), ?_⟩
    refine ⟨_, rfl, a, cars, rfl, A0.ct, A0.co, fun H1 s1 => ?_⟩
    refine ⟨_, rfl, _, rfl, a, cars, n, rfl, (A0.same s1).ct, A0.co, fun _ H2 s2 => ?_, fun z => absurd hn z⟩
    have s12 := s1.trans s2
    refine ⟨_, rfl, _, rfl, a, cars, o, rfl, (A0.same s12).ct, A0.co, fun z => absurd z ho, fun _ H3 d fs s3 h1 h2 => ?_⟩
    exact kE H3 d fs (s12.trans s3) h1 h2
end
end Sl

set_option Elab.async false
set_option linter.all false
set_option maxRecDepth 100000
set_option maxHeartbeats 4000000
namespace Sl
open PySem PySem.Spec L2 OwnR LamX
/-! ### Road(..) of all sections at once -/
theorem make_all {C x dx : Addr} {H : Hp} {ts : List Addr} {secs : List Sec} {E : XK} {G : Hp → Prop} (h2 : ts.length = secs.length) (h3 : ∀ (i : Nat) (t : Addr) (s : Sec), ts[i]? = some t → secs[i]? = some s → H t = some (.tup (secV s))) (S : SecsOk secs) (hx : H x = none) (hdx : H dx = none) (ne : dx ≠ x)
    (k : ∀ H', Same H H' → RoadAt C H' x secs → G H') : spRInit C (.ref x :: ts.map V.ref) (upd (upd H dx (.own x)) x (.ins C dx [])) (fun v H2 => v = .non ∧ G H2) E := by
  have few := S.few
  refine ⟨[.ref x], ts.map V.ref, rfl, rfl, by rw [List.length_map, h2]; exact Nat.le_of_lt (small1000 (by omega)), fun p hp => ?_⟩
  have hxp : x ≠ p := fun z => by
    rw [← z, upd_same] at hp
    cases hp
  have old : ∀ b o, H b = some o → (upd (upd (upd H dx (.own x)) x (.ins C dx [])) p (.tup (ts.map V.ref))) b = some o := fun b o e => by
    have e2 : (upd (upd H dx (.own x)) x (.ins C dx [])) b = some o := by
      rw [upd_ne (ne_of_none e hx), upd_ne (ne_of_none e hdx)]
      exact e
    rw [upd_ne (ne_of_none e2 hp)]
    exact e2
  refine ⟨x, dx, p, secs, rfl, by rw [upd_ne hxp, upd_same], ⟨ts, by rw [upd_same], h2, fun i a s' e1 e2 => old _ _ (h3 i a s' e1 e2)⟩, S, fun H2 us kp hX hus => ⟨rfl, ?_⟩⟩
  exact k H2 (fun b o e => kp b o (old _ _ e) (ne_of_none e hx)) ⟨dx, p, us, hX, ⟨ts, kp _ _ upd_same hxp.symm, h2, fun i a s' e1 e2 => kp _ _ (old _ _ (h3 i a s' e1 e2)) (ne_of_none (h3 i a s' e1 e2) hx)⟩, hus⟩
/-! ### lists and tuples that are alike -/
def spL1 (K : PySem.W.Frag) : Sp := fun vs H Q E => spLike0 K vs H Q E ∨ spLikeS (spLike0 K) vs H Q E
theorem like_strsT {K : PySem.W.Frag} {a b : Addr} {l : List Str} {H : Hp} (ha : H a = some (.tup (l.map V.str))) (hb : H b = some (.tup (l.map V.str))) (ok : ∀ n ∈ l, PyData.strOk n = true) (hl : l.length ≤ 1000) {Q : VK} (k : ∀ H', Same H H' → Q (.bl true) H') : spLikeS (spLike0 K) [.ref a, .ref b] H Q E0 := by
  refine ⟨a, b, "tuple", l.map V.str, l.map V.str, rfl, .inl ⟨rfl, ha⟩, .inl ⟨rfl, hb⟩, rfl, by rw [List.length_map]; exact hl, fun H' k' i x y hx hy Q' hQ => ?_, k⟩
  rw [hx] at hy
  rw [← Option.some.inj hy]
  rw [List.getElem?_map] at hx
  obtain ⟨n, hn, rfl⟩ := Option.map_eq_some_iff.mp hx
  exact like_str (ok n (List.mem_of_getElem? hn)) (hQ _ fun _ _ z => z)
/-! ### the one long chain -/
def lgS : List Sec := [(false, 10), (true, 5), (false, 10)]
def lgC (q : Nat) : List Car := [⟨"tom", (q : Int), 20⟩, ⟨"bob", (q : Int), 10⟩, ⟨"ann", (q : Int) + 190, 1⟩]
theorem lg_all : ∀ q < 50, ("ann" : Str) ∈ chgL lgS (lgC q) "tom" ∧ (("ann", ["tom", "bob", "ann"]) : Ch) ∈ (bfs (chgL lgS (lgC q) "tom") (leadB lgS (lgC q) "tom") "tom" 2).1 ∧ ("ann" : Str) ∉ chgL lgS (lgC q) "bob" := by decide +kernel
theorem lg_cars {q : Nat} (hq : q < 50) : CarsOk (lgC q) := by
  have nm : ∀ n ∈ (["tom", "bob", "ann"] : List Str), NameOk n := fun n hn => name_of (List.all_eq_true.mp (by decide +kernel : (["tom", "bob", "ann"] : List Str).all nameB = true) n hn)
  refine ⟨fun c hc => ?_, (by decide +kernel : (["tom", "bob", "ann"] : List Str).Nodup), by show 3 ≤ 10; decide⟩
  rcases List.mem_cons.mp hc with rfl | hc
  · exact ⟨nm _ List.mem_cons_self, by show (0 : Int) ≤ q; omega, by show (q : Int) ≤ 1000000; omega, by show (1 : Int) ≤ 20; decide, by show (20 : Int) ≤ 60; decide⟩
  rcases List.mem_cons.mp hc with rfl | hc
  · exact ⟨nm _ (List.mem_cons_of_mem _ List.mem_cons_self), by show (0 : Int) ≤ q; omega, by show (q : Int) ≤ 1000000; omega, by show (1 : Int) ≤ 10; decide, by show (10 : Int) ≤ 60; decide⟩
  rcases List.mem_cons.mp hc with rfl | hc
  · exact ⟨nm _ (List.mem_cons_of_mem _ (List.mem_cons_of_mem _ List.mem_cons_self)), by show (0 : Int) ≤ q + 190; omega, by show (q : Int) + 190 ≤ 1000000; omega, by show (1 : Int) ≤ 1; decide, by show (1 : Int) ≤ 60; decide⟩
  · cases hc
theorem lg_secs : SecsOk lgS := ⟨by decide, by show 3 ≤ 12; decide, fun s hs => by
  rcases List.mem_cons.mp hs with rfl | hs
  · decide
  rcases List.mem_cons.mp hs with rfl | hs
  · decide
  rcases List.mem_cons.mp hs with rfl | hs
  · decide
  · cases hs⟩
/-! ### the law -/
def qLaw : Str := ("law" : Str) ++ (".<locals>." : Str) ++ ("<lambda>" : Str)
def nLaw : List Str := ["_law_script", "_law_d", "_law_turn", "_law_parts_here", "_law_cars_here", "_law_road", "_law_some", "_law_name", "_law_start", "_law_pace", "_law_other", "_law_due", "_law_car"]
theorem scLaw : FnScope nLaw ["_law_script"] (defScope sLaw) := ⟨rfl, rfl, rfl, by decide +kernel, rfl, by decide +kernel, by decide +kernel⟩
theorem RoadAt.keepB {CR : Addr} {H H' : Hp} {p r : Addr} {secs : List Sec} {xs : List V} (h : RoadAt CR H p secs) (k : KeepB r H H') (hr : H r = some (.lst xs)) : RoadAt CR H' p secs := by
  obtain ⟨dx, t, u, h1, ⟨ts, a1, a2, a3⟩, h3⟩ := h
  have nl := k.notlst hr
  exact ⟨dx, t, u, nl _ _ h1 fun _ z => (nomatch z), ⟨ts, nl _ _ a1 fun _ z => (nomatch z), a2, fun i t s e1 e2 => nl _ _ (a3 i t s e1 e2) fun _ z => nomatch z⟩, h3⟩
theorem CarsAt.keepB {H H' : Hp} {a r : Addr} {cars : List Car} {xs : List V} (h : CarsAt H a cars) (k : KeepB r H H') (hr : H r = some (.lst xs)) : CarsAt H' a cars := by
  obtain ⟨ts, h1, h2, h3⟩ := h
  have nl := k.notlst hr
  exact ⟨ts, nl _ _ h1 fun _ z => (nomatch z), h2, fun i t c e1 e2 => nl _ _ (h3 i t c e1 e2) fun _ z => nomatch z⟩
theorem TupsAt.keepB {H H' : Hp} {a r : Addr} {vss : List (List V)} {xs : List V} (h : TupsAt H a vss) (k : KeepB r H H') (n : a ≠ r) (hr : H r = some (.lst xs)) : TupsAt H' a vss := by
  obtain ⟨ts, h1, h2, h3⟩ := h
  exact ⟨ts, k _ _ h1 n, h2, fun i t v e1 e2 => k _ _ (h3 i t v e1 e2) (ne_of (h3 i t v e1 e2) hr (by intro z; cases z))⟩
/-- what the law has at hand -/
structure LawB (K : PySem.W.Frag) (CR : Addr) (T : List (Addr × Str)) (H : Hp) (r sc l a p tq : Addr) (ns : List Int) (secs : List Sec) (cars : List Car) : Prop where
  row : RowAt K H r sc ns
  rn : RunsAt H l secs
  nl : l ≠ r
  tp : TupsAt H a (cars.map Car.vs)
  na : a ≠ r
  rc : RC CR T H p tq secs cars
theorem LawB.ext {K : PySem.W.Frag} {CR : Addr} {T : List (Addr × Str)} {H H' : Hp} {r sc l a p tq : Addr} {ns : List Int} {secs : List Sec} {cars : List Car} (F : LawB K CR T H r sc l a p tq ns secs cars) (e : ExtN H H') (t : Tabs T H') : LawB K CR T H' r sc l a p tq ns secs cars :=
  ⟨F.row.ext e, F.rn.ext2 e, F.nl, F.tp.ext e, F.na, F.rc.ext e t⟩
theorem LawB.same {K : PySem.W.Frag} {CR : Addr} {T : List (Addr × Str)} {H H' : Hp} {r sc l a p tq : Addr} {ns : List Int} {secs : List Sec} {cars : List Car} (F : LawB K CR T H r sc l a p tq ns secs cars) (e : Same H H') : LawB K CR T H' r sc l a p tq ns secs cars := F.ext (ExtN.same e) (F.rc.tb.ext e)
theorem LawB.keep {K : PySem.W.Frag} {CR : Addr} {T : List (Addr × Str)} {H H' : Hp} {r sc l a p tq : Addr} {ns : List Int} {secs : List Sec} {cars : List Car} (F : LawB K CR T H r sc l a p tq ns secs cars) (k : KeepB r H H') (R : RowAt K H' r sc ns) : LawB K CR T H' r sc l a p tq ns secs cars := by
  obtain ⟨x, hx⟩ := F.row.lst
  exact ⟨R, F.rn.keep k F.nl hx, F.nl, F.tp.keepB k F.na hx, F.na, F.rc.rd.keepB k hx, F.rc.ct.keepB k hx, F.rc.so, F.rc.co, Tabs.keepL F.rc.tb (k.notlst hx)⟩
def Cts (H : Hp) (a : Addr) (ts : List Addr) (cars : List Car) : Prop := H a = some (.lst (ts.map V.ref)) ∧ ∀ (i : Nat) (t : Addr) (c : Car), ts[i]? = some t → cars[i]? = some c → H t = some (.tup c.vs)
theorem Cts.ext {H H' : Hp} {a : Addr} {ts : List Addr} {cars : List Car} (h : Cts H a ts cars) (e : ExtN H H') : Cts H' a ts cars := ⟨ExtN.lst e h.1, fun i t c e1 e2 => ExtN.tup e (h.2 i t c e1 e2)⟩
section
variable {P : Program} {w : World} {K : PySem.W.Frag} {mg : Str → Option Value} {base : Heap}
/-! ### _law_long_chain -/
def spLong (K : PySem.W.Frag) (T : List (Addr × Str)) : Sp := fun vs H Q _ => ∃ (r sc : Addr) (ns : List Int), vs = [.ref r] ∧ RowAt K H r sc ns ∧ Tabs T H ∧ ∀ H', Q (.bl true) H'
def nLong : List Str := ["_law_d", "_law_start", "_law_road", "_law_cars_here", "_law_found"]
theorem scLong : FnScope nLong ["_law_d"] (defScope sLongChain) := ⟨rfl, rfl, rfl, by decide +kernel, rfl, by decide +kernel, by decide +kernel⟩
theorem ok_long {f fI CR lp kp : Addr} {fd : FuncData} {T : List (Addr × Str)} (F : Fun K "_law_long_chain" "_law_long_chain" sLongChain f fd) (M : Mg mg) (RR : RoadT K w mg CR lp kp) (MK : Mk K CR fI) (GI : FnR P w K mg base CX0 3 fI (spRInit CR))
    (IN : ∃ f fd, Fb K mg "_law_next" sNext ["_law_dice_here", "_law_many"] f fd ∧ FnOk P w K mg base CX0 1 f fd ["_law_dice_here", "_law_many"] (spNext K))
    (IB : ∃ f fd, Fb K mg "chain_between" sChainBetween ["road", "cars", "name", "other"] f fd ∧ FnOk P w K mg base CX0 7 f fd ["road", "cars", "name", "other"] (spChain CR T))
    (IL : ∃ f fd, Fb K mg "_law_like" sLike ["_law_found", "_law_due"] f fd ∧ FnOk P w K mg base CX0 3 f fd ["_law_found", "_law_due"] (spLikeS (spL1 K))) : FnOk P w K mg base CX0 8 f fd ["_law_d"] (spLong K T) := by
  refine F.ok scLong (fun vs H Q E h => ?_) (fun cdv A outer s H vs Q E hr h => ?_)
  · obtain ⟨r, sc, ns, rfl, _⟩ := h
    rfl
  · obtain ⟨r, sc, ns, rfl, R0, T0, k⟩ := h
    have nd := scLong.nd
    obtain ⟨fN, dN, BN, GN⟩ := IN
    obtain ⟨fB, dB, BB, GB⟩ := IB
    obtain ⟨fL, dL, BL, GL⟩ := IL
    have room : ∀ n, n ≤ 7 → Room n (A.deeper (PyProof.Rows.envOfC "_law_long_chain" (defScope sLongChain) s.heap.objs.size f cdv)) := fun n h => hr.mono h
    have hr1 := room 1 (by decide)
    have hr3 := room 3 (by decide)
    have hr4 := room 4 (by decide)
    have hr7 := room 7 (by decide)
    refine ⟨_, (pss_cons (ps_set (i := 1) nd rfl (.inl rfl) (pe_call GN hr1 (by rfl) BN.at_ BN.fn.kp BN.bd .nil pass0 (pa_cons (pv 0) (pa_cons pe_int pa_nil)))) (pss_cons (ps_set (i := 2) nd rfl (.inl rfl) (StX.pe_makeR MK GI hr4 (by rfl) RR.mgC pass0 (pa_cons (pe_tup (pa_cons pe_str (pa_cons pe_int pa_nil))) (pa_cons (pe_tup (pa_cons pe_str (pa_cons pe_int pa_nil))) (pa_cons (pe_tup (pa_cons pe_str (pa_cons pe_int pa_nil))) pa_nil))))) (pss_cons (ps_set (i := 3) nd rfl (.inl rfl) (pe_tup (pa_cons (pe_tup (pa_cons pe_str (pa_cons (pv 1) (pa_cons pe_int pa_nil)))) (pa_cons (pe_tup (pa_cons pe_str (pa_cons (pv 1) (pa_cons pe_int pa_nil)))) (pa_cons (pe_tup (pa_cons pe_str (pa_cons (pe_op op_add (pv 1) pe_int) (pa_cons pe_int pa_nil)))) pa_nil))))) (pss_cons (ps_set (i := 4) nd rfl (.inl rfl) (pe_lst (pa_cons (pe_call GB hr7 (by rfl) BB.at_ BB.fn.kp BB.bd .nil pass0 (pa_cons (pv 2) (pa_cons (pv 3) (pa_cons pe_str (pa_cons pe_str pa_nil))))) (pa_cons (pe_call GB hr7 (by rfl) BB.at_ BB.fn.kp BB.bd .nil pass0 (pa_cons (pv 2) (pa_cons (pv 3) (pa_cons pe_str (pa_cons pe_str pa_nil))))) pa_nil)))) (pss_one (ps_ret (pe_call GL hr3 (by rfl) BL.at_ BL.fn.kp BL.bd .nil pass0 (pa_cons (pv 4) (pa_cons (pe_lst (pa_cons (pe_lst (pa_cons pe_str (pa_cons pe_str (pa_cons pe_str pa_nil)))) (pa_cons pe_non pa_nil))) pa_nil))))))))), ?_⟩
    obtain ⟨x0, hx0⟩ := R0.lst
    refine ⟨_, rfl, r, sc, ns, 50, rfl, by decide, by decide, R0, fun H1 q k1 R1 hq => ?_⟩
    have T1 : Tabs T H1 := Tabs.keepL T0 (k1.notlst hx0)
    refine ⟨by show 2 ≤ sizeLine; decide, fun t1 h1 => ⟨by show 2 ≤ sizeLine; decide, fun t2 h2 => ⟨by show 2 ≤ sizeLine; decide, fun t3 h3 => ?_⟩⟩⟩
    have y3 := sameNew h3 (.tup [V.str "narrow", V.int 10])
    have y2 := sameNew h2 (.tup [V.str "wide", V.int 5])
    have s4 := (sameNew h1 (.tup [V.str "narrow", V.int 10])).trans (y2.trans y3)
    have a1 := y3 _ _ (y2 _ _ (upd_same (H := H1) (a := t1) (o := .tup [V.str "narrow", V.int 10])))
    have a2 := y3 _ _ (upd_same (H := upd H1 t1 (.tup [V.str "narrow", V.int 10])) (a := t2) (o := .tup [V.str "wide", V.int 5]))
    have a3 := upd_same (H := upd (upd H1 t1 (.tup [V.str "narrow", V.int 10])) t2 (.tup [V.str "wide", V.int 5])) (a := t3) (o := .tup [V.str "narrow", V.int 10])
    generalize upd (upd (upd H1 t1 (.tup [V.str "narrow", V.int 10])) t2 (.tup [V.str "wide", V.int 5])) t3 (.tup [V.str "narrow", V.int 10]) = H4 at s4 a1 a2 a3 ⊢
    clear y2 y3 h1 h2 h3
    refine fun x dx hx hdx ne => make_all (ts := [t1, t2, t3]) (secs := lgS) rfl (fun i t s e1 e2 => ?_) lg_secs hx hdx ne fun H5 s5 rd => ?_
    · match i, e1, e2 with
      | 0, e1, e2 =>
        cases Option.some.inj e1
        cases Option.some.inj e2
        exact a1
      | 1, e1, e2 =>
        cases Option.some.inj e1
        cases Option.some.inj e2
        exact a2
      | 2, e1, e2 =>
        cases Option.some.inj e1
        cases Option.some.inj e2
        exact a3
    have T5 := T1.ext (s4.trans s5)
    clear a1 a2 a3 s4 s5 hx hdx ne
    refine ⟨_, rfl, by show 3 ≤ sizeLine; decide, fun b1 g1 => ⟨_, rfl, by show 3 ≤ sizeLine; decide, fun b2 g2 => ⟨_, rfl, _, _, rfl, rfl, by show 3 ≤ sizeLine; decide, fun b3 g3 => ⟨by show 3 ≤ sizeLine; decide, fun a ga => ?_⟩⟩⟩⟩
    have z1 := sameNew g1 (.tup [V.str "tom", V.int (q : Nat), V.int 20])
    have z2 := sameNew g2 (.tup [V.str "bob", V.int (q : Nat), V.int 10])
    have z3 := sameNew g3 (.tup [V.str "ann", V.int ((q : Nat) + 190), V.int 1])
    have z4 := sameNew ga (.tup [V.ref b1, V.ref b2, V.ref b3])
    have d1 := z4 _ _ (z3 _ _ (z2 _ _ (upd_same (H := H5) (a := b1) (o := .tup [V.str "tom", V.int (q : Nat), V.int 20]))))
    have d2 := z4 _ _ (z3 _ _ (upd_same (H := upd H5 b1 (.tup [V.str "tom", V.int (q : Nat), V.int 20])) (a := b2) (o := .tup [V.str "bob", V.int (q : Nat), V.int 10])))
    have d3 := z4 _ _ (upd_same (H := upd (upd H5 b1 (.tup [V.str "tom", V.int (q : Nat), V.int 20])) b2 (.tup [V.str "bob", V.int (q : Nat), V.int 10])) (a := b3) (o := .tup [V.str "ann", V.int ((q : Nat) + 190), V.int 1]))
    have s6 := z1.trans (z2.trans (z3.trans z4))
    have d4 : upd (upd (upd (upd H5 b1 (.tup [V.str "tom", V.int (q : Nat), V.int 20])) b2 (.tup [V.str "bob", V.int (q : Nat), V.int 10])) b3 (.tup [V.str "ann", V.int ((q : Nat) + 190), V.int 1])) a (.tup [V.ref b1, V.ref b2, V.ref b3]) a = some (.tup [V.ref b1, V.ref b2, V.ref b3]) := upd_same
    generalize upd (upd (upd (upd H5 b1 (.tup [V.str "tom", V.int (q : Nat), V.int 20])) b2 (.tup [V.str "bob", V.int (q : Nat), V.int 10])) b3 (.tup [V.str "ann", V.int ((q : Nat) + 190), V.int 1])) a (.tup [V.ref b1, V.ref b2, V.ref b3]) = H6 at s6 d1 d2 d3 d4 ⊢
    have ct : CarsAt H6 a (lgC q) := by
      refine ⟨[b1, b2, b3], d4, rfl, fun i t c e1 e2 => ?_⟩
      match i, e1, e2 with
      | 0, e1, e2 =>
        cases Option.some.inj e1
        cases Option.some.inj e2
        exact d1
      | 1, e1, e2 =>
        cases Option.some.inj e1
        cases Option.some.inj e2
        exact d2
      | 2, e1, e2 =>
        cases Option.some.inj e1
        cases Option.some.inj e2
        exact d3
    have rd6 := rd.ext2 (ExtN.same s6)
    have T6 := T5.ext s6
    clear z1 z2 z3 z4 d1 d2 d3 d4 s6 g1 g2 g3 ga rd T5
    obtain ⟨l1, l2, l3⟩ := lg_all q hq
    have CO := lg_cars hq
    have rc6 : RC CR T H6 x a lgS (lgC q) := ⟨rd6, ct, lg_secs, CO, T6⟩
    have nt : ("tom" : Str) ∈ names (lgC q) := List.mem_cons_self
    have nb : ("bob" : Str) ∈ names (lgC q) := List.mem_cons_of_mem _ List.mem_cons_self
    have na : ("ann" : Str) ∈ names (lgC q) := List.mem_cons_of_mem _ (List.mem_cons_of_mem _ List.mem_cons_self)
    refine ⟨_, rfl, _, rfl, x, a, lgS, lgC q, "tom", "ann", rfl, rc6, nt, na, fun H7 v1 e7 T7 cv1 => ?_⟩
    have rc7 := rc6.ext e7 T7
    rcases cv1 with ⟨_, z⟩ | ⟨li, kk, c, rfl, _, hc, ec, hli⟩
    · exact absurd l1 z
    have e2 : c.2 = (["tom", "bob", "ann"] : List Str) := by
      have f1 := chainTo_mem (bfs_nd _ _ _ kk) hc
      have f2 := chainTo_mem (bfs_nd _ _ _ 2) l2
      have es := chain_same _ _ _ (List.mem_map.mpr ⟨c, hc, rfl⟩) (show c.1 ∈ keysC (bfs (chgL lgS (lgC q) "tom") (leadB lgS (lgC q) "tom") "tom" 2).1 from List.mem_map.mpr ⟨_, l2, ec.symm⟩)
      rw [f1, ec, f2] at es
      exact Option.some.inj es
    rw [e2] at hli
    refine ⟨_, rfl, _, rfl, x, a, lgS, lgC q, "bob", "ann", rfl, rc7, nb, na, fun H8 v2 e8 T8 cv2 => ?_⟩
    rcases cv2 with ⟨rfl, _⟩ | ⟨_, _, _, _, z, _⟩
    rotate_left
    · exact absurd z l3
    have hl8 := ExtN.lst e8 hli
    refine ⟨by show 2 ≤ sizeLine; decide, fun L hL => ?_⟩
    have w1 := sameNew hL (.lst [V.ref li, V.non])
    refine ⟨_, rfl, by show 3 ≤ sizeLine; decide, fun m hm => ⟨by show 2 ≤ sizeLine; decide, fun M2 hM2 => ?_⟩⟩
    have w2 := sameNew hm (.lst [V.str "tom", V.str "bob", V.str "ann"])
    have w3 := sameNew hM2 (.lst [V.ref m, V.non])
    refine ⟨L, M2, "list", [V.ref li, V.non], [V.ref m, V.non], rfl, .inr ⟨rfl, w3 _ _ (w2 _ _ upd_same)⟩, .inr ⟨rfl, upd_same⟩, rfl, by show 2 ≤ 1000; decide, fun H' k' i x y hx hy Q' hQ => ?_, fun H' _ => k H'⟩
    match i, hx, hy with
    | 0, hx, hy =>
      obtain rfl := Option.some.inj hx
      obtain rfl := Option.some.inj hy
      exact .inr (like_strs (l := ["tom", "bob", "ann"]) (k' _ _ (w3 _ _ (w2 _ _ (w1 _ _ hl8)))) (k' _ _ (w3 _ _ upd_same)) (by decide +kernel) (by decide) hQ)
    | 1, hx, hy =>
      obtain rfl := Option.some.inj hx
      obtain rfl := Option.some.inj hy
      exact .inl (like_non (hQ _ (Same.refl _)))
end
/-- all that the law asks of the program -/
structure Env06 (P : Program) (w : World) (K : PySem.W.Frag) (mg : Str → Option Value) (base : Heap) (CR C CE c0 c1 c2 CU c4 : Addr) (T : List (Addr × Str)) : Prop where
  M : Mg mg
  ET : ErrTab mg CE c0 c1 c2 CU c4
  J3 : ErrJ K CE c0 c1 c2 CU c4 CU 3
  dice : ∃ f fd, Fb K mg "_law_dice" sDice ["_law_script"] f fd ∧ FnOk P w K mg base CX0 1 f fd ["_law_script"] (spDice K)
  next : ∃ f fd, Fb K mg "_law_next" sNext ["_law_dice_here", "_law_many"] f fd ∧ FnOk P w K mg base CX0 1 f fd ["_law_dice_here", "_law_many"] (spNext K)
  parts : ∃ f fd, Fb K mg "_law_parts" sParts ["_law_d", "_law_most", "_law_long"] f fd ∧ FnOk P w K mg base CX0 3 f fd ["_law_d", "_law_most", "_law_long"] (spParts K)
  cars : ∃ f fd, Fb K mg "_law_cars" sCars ["_law_d", "_law_most", "_law_span", "_law_paces"] f fd ∧ FnOk P w K mg base CX0 2 f fd ["_law_d", "_law_most", "_law_span", "_law_paces"] (spCars K)
  made : ∃ f fd, Fb K mg "_law_made" sMade ["_law_parts_here"] f fd ∧ FnOk P w K mg base CX0 6 f fd ["_law_parts_here"] (spMade CR)
  like : ∃ f fd, Fb K mg "_law_like" sLike ["_law_found", "_law_due"] f fd ∧ FnOk P w K mg base CX0 2 f fd ["_law_found", "_law_due"] (spL1 K) ∧ FnOk P w K mg base CX0 3 f fd ["_law_found", "_law_due"] (spLikeS (spL1 K))
  lch : ∃ f fd, Fb K mg "_law_chain" sChain ["_law_parts_here", "_law_cars_here", "_law_name", "_law_goal"] f fd ∧ FnOk P w K mg base CX0 3 f fd ["_law_parts_here", "_law_cars_here", "_law_name", "_law_goal"] spLch
  long : ∃ f fd, Fb K mg "_law_long_chain" sLongChain ["_law_d"] f fd ∧ FnOk P w K mg base CX0 8 f fd ["_law_d"] (spLong K T)
  chain : ∃ f fd, Fb K mg "chain_between" sChainBetween ["road", "cars", "name", "other"] f fd ∧ FnOk P w K mg base (L2.CX P w) 7 f fd ["road", "cars", "name", "other"] (fun vs H Q E => spChain CR T vs H Q E ∨ spChainU CR CU T vs H Q E)
  told : ∃ g cdv, Teller K mg "_law_told" "_law_work" g nTold (defBody sTold) (defScope sTold) cdv
section
variable {P : Program} {w : World} {K : PySem.W.Frag} {mg : Str → Option Value} {base : Heap}
def spLaw (K : PySem.W.Frag) (T : List (Addr × Str)) : Sp := fun vs H Q _ => ∃ (sc : Addr) (ns : List Int), vs = [.ref sc] ∧ SqL K H sc (ns.map V.int) ∧ Tabs T H ∧ ∀ H', Q (.bl true) H'
theorem ok_law {f c Pt CR C CE c0 c1 c2 CU c4 : Addr} {fd : FuncData} {T : List (Addr × Str)} (F : FunC K "law" "law" sLaw f fd c) (TB : TabB base mg c Pt) (hm : (Pt, qLaw) ∈ T) (hut : ∀ p ∈ T, p.1 = Pt → p.2 = qLaw) (X9 : Env06 P w K mg base CR C CE c0 c1 c2 CU c4 T) : FnOk P w K mg base CX0 11 f fd ["_law_script"] (spLaw K T) := by
  refine F.ok scLaw (fun vs H Q E h => ?_) (fun A outer s H vs Q E hr h => ?_)
  · obtain ⟨sc, ns, rfl, _⟩ := h
    rfl
  · obtain ⟨sc, ns, rfl, hsc, hT, k⟩ := h
    have nd := scLaw.nd
    have hu := hu_of hr
    have hu64 := hr.units
    have M := X9.M
    have ET := X9.ET
    have J3 := X9.J3
    obtain ⟨_, _, BDi, GDi⟩ := X9.dice
    obtain ⟨_, _, BNe, GNe⟩ := X9.next
    obtain ⟨_, _, BPa, GPa⟩ := X9.parts
    obtain ⟨_, _, BCa, GCa⟩ := X9.cars
    obtain ⟨_, _, BMa, GMa⟩ := X9.made
    obtain ⟨_, _, BLk, GLk, _⟩ := X9.like
    obtain ⟨_, _, BLc, GLc⟩ := X9.lch
    obtain ⟨_, _, BLo, GLo⟩ := X9.long
    obtain ⟨_, _, BCh, GCh⟩ := X9.chain
    obtain ⟨_, _, WT⟩ := X9.told
    have room : ∀ n, n ≤ 10 → Room n (A.deeper (PyProof.Rows.envOfC "law" (defScope sLaw) s.heap.objs.size f (.ref c))) := fun n h => hr.mono h
    have hr1 := room 1 (by decide)
    have hr2 := room 2 (by decide)
    have hr3 := room 3 (by decide)
    have hr6 := room 6 (by decide)
    have hr8 := room 8 (by decide)
    have hr9 : Room (7 + 2) (A.deeper (PyProof.Rows.envOfC "law" (defScope sLaw) s.heap.objs.size f (.ref c))) := room 9 (by decide)
    refine ⟨_, (pss_cons (ps_set (i := 1) nd rfl (.inl rfl) (pe_call GDi hr1 (by rfl) BDi.at_ BDi.fn.kp BDi.bd .nil pass0 (pa_cons (pv 0) pa_nil))) (pss_cons (ps_for PassesOwn.never rfl (pi_range1 (by rfl) M.range (pa_cons pe_int pa_nil)) (pg_name (i := 2) nd rfl (.inl rfl)) (pss_cons (ps_par (i := 3) (j := 4) rfl nd rfl rfl (by decide) rfl rfl (pa_cons (pe_call GPa hr3 (by rfl) BPa.at_ BPa.fn.kp BPa.bd .nil pass0 (pa_cons (pv 1) (pa_cons pe_int (pa_cons pe_int pa_nil)))) (pa_cons (pe_call GCa hr2 (by rfl) BCa.at_ BCa.fn.kp BCa.bd .nil pass0 (pa_cons (pv 1) (pa_cons pe_int (pa_cons (pe_ix ix_list (pe_lst (pa_cons pe_int (pa_cons pe_int pa_nil))) (pe_call GNe hr1 (by rfl) BNe.at_ BNe.fn.kp BNe.bd .nil pass0 (pa_cons (pv 1) (pa_cons pe_int pa_nil))) (fun _ _ => rfl)) (pa_cons (pe_ix ix_list (pe_lst (pa_cons pe_int (pa_cons pe_int (pa_cons pe_int pa_nil)))) (pe_call GNe hr1 (by rfl) BNe.at_ BNe.fn.kp BNe.bd .nil pass0 (pa_cons (pv 1) (pa_cons pe_int pa_nil))) (fun _ _ => rfl)) pa_nil))))) pa_nil)) rfl) (pss_cons (ps_asg (pe_tup (pa_cons (pe_call GMa hr6 (by rfl) BMa.at_ BMa.fn.kp BMa.bd .nil pass0 (pa_cons (pv 3) pa_nil)) (pa_cons (pe_callTy call_tuple_of (by rfl) M.tuple boot_tTuple (pa_cons (pv 4) pa_nil)) pa_nil))) (pg_tup rfl (pgs_cons (pg_name (i := 5) nd rfl (.inr rfl)) (pgs_cons (pg_name (i := 6) nd rfl (.inr rfl)) pgs_nil)))) (pss_one (ps_for PassesOwn.never rfl (pi_list (pv 4)) (pg_tup rfl (pgs_cons (pg_name (i := 7) nd rfl (.inr rfl)) (pgs_cons (pg_name (i := 8) nd rfl (.inl rfl)) (pgs_cons (pg_name (i := 9) nd rfl (.inl rfl)) pgs_nil)))) (pss_one (ps_for PassesOwn.never rfl (pi_list (pe_op op_cat (pe_lc (own := [("_law_car", 12)]) (g := gName 12) (tt := tYes) (te := tOp (rIxT K) (tVar 12) (tC (.int 0))) (by rfl) nd (pi_list (pv 4)) (blkOk_by (N := nLaw) (sc := defScope sLaw) (by decide +kernel)) (fun _ _ _ _ _ => (pg_name (i := 12) nd rfl (.inl rfl))) (fun _ _ _ _ _ => pts_nil) (fun _ _ _ _ _ => (pe_ix (r := rIxT K) ix_tup (pv 12) pe_int (fun _ _ => rfl)))) (pe_lst (pa_cons pe_str pa_nil)))) (pg_name (i := 10) nd rfl (.inr rfl)) (pss_cons (ps_set (i := 11) nd rfl (.inl rfl) (pe_ifExp (pt_cmpR op_ne (pv 10) pe_str (nomark _)) (pe_call GLc hr3 (by rfl) BLc.at_ BLc.fn.kp BLc.bd .nil pass0 (pa_cons (pv 3) (pa_cons (pv 4) (pa_cons (pv 7) (pa_cons (pv 10) pa_nil))))) (pe_tup (pa_cons pe_str (pa_cons pe_str (pa_cons pe_str pa_nil)))))) (pss_one (ps_if (pt_not (pt_val (pe_call GLk hr2 (by rfl) BLk.at_ BLk.fn.kp BLk.bd .nil pass0 (pa_cons (pe_told WT (by rfl) (told_gives M ET) hr9 (pe_lamV TB rfl hm hut (lamS2_by (N := nLaw) (sc := defScope sLaw) (by decide +kernel)))) (pa_cons (pv 11) pa_nil))))) (pss_one (ps_ret pe_bl)) pss_nil)))))))))) (pss_one (ps_ret (pe_call GLo hr8 (by rfl) BLo.at_ BLo.fn.kp BLo.bd .nil pass0 (pa_cons (pv 1) pa_nil)))))), ?_⟩
    refine ⟨_, rfl, sc, ns, rfl, hsc, fun H0 r s0 hr0 R0 => ?_⟩
    have T0 : Tabs T H0 := hT.ext s0
    clear hT hsc s0 hr0
    refine ⟨2, rfl, by decide, by decide, for_it walk_range (fun i σ H1 => ∃ v2 v3 v4 v5 v6 v7 v8 v9 v10 v11, σ = [some (.ref sc), some (.ref r), v2, v3, v4, v5, v6, v7, v8, v9, v10, v11, none] ∧ RowAt K H1 r sc ns ∧ Tabs T H1)
      ⟨_, _, _, _, _, _, _, _, _, _, rfl, R0, T0⟩ (fun _ _ _ _ _ => True.intro) ?_ ?_⟩
    rotate_left
    · rintro σ H2 ⟨_, _, _, _, _, _, _, _, _, _, rfl, R2, T2⟩
      exact ⟨_, rfl, r, sc, ns, rfl, R2, T2, fun H3 => k H3⟩
    clear R0 T0
    rintro turn x σ Hz H1 hturn ⟨v2, v3, v4, v5, v6, v7, v8, v9, v10, v11, rfl, R1, T1⟩ ⟨e, ex⟩
    subst e ex
    obtain ⟨x1, hx1⟩ := R1.lst
    refine ⟨_, rfl, r, sc, ns, 5, 12, rfl, by decide, by decide, by decide, by decide, R1, fun H2 l secs k2 R2 hl nlr rn2 l1 l5 hd => ?_⟩
    have T2 : Tabs T H2 := Tabs.keepL T1 (k2.notlst hx1)
    clear k2 R1 T1 hx1 hl
    obtain ⟨x2, hx2⟩ := R2.lst
    refine ⟨_, rfl, by show 2 ≤ sizeLine; decide, fun q hq => ?_⟩
    have s3 := sameNew hq (.lst [V.int 30, V.int 150])
    have hq3 : upd H2 q (.lst [V.int 30, V.int 150]) q = some (.lst [V.int 30, V.int 150]) := upd_same
    have nqr := R2.old hq
    refine ⟨_, rfl, r, sc, ns, 2, rfl, by decide, by decide, R2.same s3, fun H4 b k4 R4 hb => ?_⟩
    have hq4 := k4 _ _ hq3 nqr
    have T4 : Tabs T H4 := Tabs.keepL (T2.ext s3) (k4.notlst (s3 _ _ hx2))
    have rn4 : RunsAt H4 l secs := (rn2.ext2 (ExtN.same s3)).keep k4 nlr (s3 _ _ hx2)
    obtain ⟨sp, hsp, hsp9⟩ : ∃ sp : Nat, ([V.int 30, V.int 150] : List V)[b]? = some (V.int (sp : Int)) ∧ sp ≤ 900 := by
      match b, hb with
      | 0, _ => exact ⟨30, rfl, by decide⟩
      | 1, _ => exact ⟨150, rfl, by decide⟩
    refine ⟨q, _, ((b : Nat) : Int), V.int (sp : Int), rfl, rfl, SqL.of hq4, atI_nat hsp, ?_⟩
    clear hq3 s3 k4 T2 rn2 R2 hq4 nqr hq
    obtain ⟨x4, hx4⟩ := R4.lst
    refine ⟨by show 3 ≤ sizeLine; decide, fun q2 hq2 => ?_⟩
    have s5 := sameNew hq2 (.lst [V.int 4, V.int 12, V.int 30])
    have hq5 : upd H4 q2 (.lst [V.int 4, V.int 12, V.int 30]) q2 = some (.lst [V.int 4, V.int 12, V.int 30]) := upd_same
    have nqr := R4.old hq2
    refine ⟨_, rfl, r, sc, ns, 3, rfl, by decide, by decide, R4.same s5, fun H5 b2 k5 R5 hb2 => ?_⟩
    have hq6 := k5 _ _ hq5 nqr
    have T5 : Tabs T H5 := Tabs.keepL (T4.ext s5) (k5.notlst (s5 _ _ hx4))
    have rn5 : RunsAt H5 l secs := (rn4.ext2 (ExtN.same s5)).keep k5 nlr (s5 _ _ hx4)
    obtain ⟨pc, hpc, hpc1, hpc9⟩ : ∃ pc : Nat, ([V.int 4, V.int 12, V.int 30] : List V)[b2]? = some (V.int (pc : Int)) ∧ 1 ≤ pc ∧ pc ≤ 60 := by
      match b2, hb2 with
      | 0, _ => exact ⟨4, rfl, by decide, by decide⟩
      | 1, _ => exact ⟨12, rfl, by decide, by decide⟩
      | 2, _ => exact ⟨30, rfl, by decide, by decide⟩
    refine ⟨q2, _, ((b2 : Nat) : Int), V.int (pc : Int), rfl, rfl, SqL.of hq6, atI_nat hpc, ?_⟩
    clear hq5 s5 k5 T4 rn4 R4 hq6 nqr hq2 hx4
    obtain ⟨x5, hx5⟩ := R5.lst
    refine ⟨r, sc, ns, 6, sp, pc, rfl, by decide, hsp9, hpc1, hpc9, R5, fun H6 a cars k6 R6 ha nar tp6 CO c6 hw => ?_⟩
    have T6 : Tabs T H6 := Tabs.keepL T5 (k6.notlst hx5)
    have rn6 := rn5.keep k6 nlr hx5
    clear k6 R5 T5 rn5 hx5 ha hx2
    have SO : SecsOk secs := ⟨fun z => by rw [z] at l1; simp at l1, by omega, fun s hs => by have := hd s hs; omega⟩
    refine ⟨_, _, rfl, ?_⟩
    refine ⟨_, rfl, l, secs, rfl, rn6, SO, fun H8 p s8 hp rd8 => ?_⟩
    obtain ⟨ts, c1, c2, c3⟩ := id (tp6.ext (ExtN.same s8))
    refine ⟨_, rfl, a, _, rfl, .inl ⟨SqL.of c1, fun tq htq => ?_⟩⟩
    rw [List.length_map] at c2
    have s9 := sameNew htq (.tup (ts.map V.ref))
    have ct9 : CarsAt (upd H8 tq (.tup (ts.map V.ref))) tq cars := ⟨ts, upd_same, c2, fun i t c e1 e2 => s9 _ _ (c3 i t c.vs e1 (by rw [List.getElem?_map, e2]; rfl))⟩
    refine ⟨by show 2 ≤ sizeLine; decide, fun tp htp => ⟨tp, _, rfl, SqT.of upd_same, rfl, _, _, rfl, _, _, rfl, rfl, ?_⟩⟩
    have s10 := sameNew htp (.tup [V.ref p, V.ref tq])
    have F10 : LawB K CR T (upd (upd H8 tq (.tup (ts.map V.ref))) tp (.tup [V.ref p, V.ref tq])) r sc l a p tq ns secs cars :=
      ⟨R6.same (s8.trans (s9.trans s10)), rn6.ext2 (ExtN.same (s8.trans (s9.trans s10))), nlr, tp6.ext (ExtN.same (s8.trans (s9.trans s10))), nar, (rd8.ext2 (ExtN.same (s9.trans s10))), ct9.ext (ExtN.same s10), SO, CO, T6.ext (s8.trans (s9.trans s10))⟩
    generalize upd (upd H8 tq (.tup (ts.map V.ref))) tp (.tup [V.ref p, V.ref tq]) = H10 at F10 ⊢
    clear s8 s9 s10 R6 T6 rn6 tp6 rd8 ct9 htp htq hp c1 c3 c2 ts
    have h10 := CO.few
    have h12 := SO.few
    have hz : ("zoe" : Str) ∉ names cars := zoe_not hw
    have nok := namesOk CO
    -- the cars, one by one
    obtain ⟨ts, c1, c2, c3⟩ := id F10.tp
    rw [List.length_map] at c2
    have ecz : (ts.map V.ref).length = cars.length := by rw [List.length_map, c2]
    refine ⟨_, rfl, a, rfl, ⟨_, SqL.of c1⟩, for_it walk_list (fun i σ H => ∃ v7 v8 v9 v10 v11, σ = [some (.ref sc), some (.ref r), some (.int (0 + (turn : Nat))), some (.ref l), some (.ref a), some (.ref p), some (.ref tq), v7, v8, v9, v10, v11, none] ∧ LawB K CR T H r sc l a p tq ns secs cars ∧ Cts H a ts cars)
      ⟨_, _, _, _, _, rfl, F10, c1, fun i t c e1 e2 => c3 i t c.vs e1 (by rw [List.getElem?_map, e2]; rfl)⟩ (fun i σ H _ ⟨_, _, _, _, _, _, _, e⟩ => SqL.of e.1) ?_ ?_⟩
    rotate_left
    · rintro σ H28 ⟨v7, v8, v9, v10, v11, rfl, F28, _⟩
      exact ⟨_, _, _, _, _, _, _, _, _, _, rfl, F28.row, F28.rc.tb⟩
    clear v7 v8 v9 v10 v11 c1 c3 F10
    rintro i y σ Hz H11 hi ⟨v7, v8, v9, v10, v11, rfl, F11, G11⟩ ⟨e, hy⟩
    subst e
    obtain ⟨t, ht, rfl⟩ : ∃ t, ts[i]? = some t ∧ y = V.ref t := by
      rw [List.getElem?_map] at hy
      obtain ⟨t, z1, z2⟩ := Option.map_eq_some_iff.mp hy
      exact ⟨t, z1, z2.symm⟩
    rw [ecz] at hi
    obtain ⟨c, hc⟩ : ∃ c, cars[i]? = some c := ⟨_, List.getElem?_eq_getElem hi⟩
    have hct := G11.2 i t c ht hc
    have hcm := List.mem_of_getElem? hc
    have hcn : c.name ∈ names cars := List.mem_map.mpr ⟨c, hcm, rfl⟩
    refine ⟨t, [V.str c.name, V.int c.start, V.int c.pace], rfl, SqT.of hct, rfl, V.str c.name, _, rfl, V.int c.start, _, rfl, V.int c.pace, _, rfl, rfl, ?_⟩
    -- the names and zoe
    refine ⟨_, rfl, a, rfl, ⟨_, SqL.of G11.1⟩, fun D hD => ?_⟩
    refine lc_it walk_list (fun j H12 => Same H11 H12 ∧ H12 D = some (.lst (((cars.take j).map (·.name)).map V.str)))
      ⟨sameNew hD _, upd_same⟩ (fun j H12 _ ⟨k1, _⟩ => SqL.of (k1 _ _ G11.1)) ?_ ?_
    · rintro j y Hz H12 hj ⟨k1, hD1⟩ ⟨e, hy⟩
      subst e
      obtain ⟨t', ht', rfl⟩ : ∃ t, ts[j]? = some t ∧ y = V.ref t := by
        rw [List.getElem?_map] at hy
        obtain ⟨t, z1, z2⟩ := Option.map_eq_some_iff.mp hy
        exact ⟨t, z1, z2.symm⟩
      rw [ecz] at hj
      obtain ⟨o, ho⟩ : ∃ c, cars[j]? = some c := ⟨_, List.getElem?_eq_getElem hj⟩
      refine ⟨rfl, yes_of ⟨_, rfl, t', _, _, _, rfl, rfl, SqT.of (k1 _ _ (G11.2 j t' o ht' ho)), rfl, ?_⟩⟩
      refine ⟨_, hD1, by rw [List.length_map, List.length_map, List.length_take]; exact small1000 (by omega), fun b o e => by rw [upd_ne (ne_of_none e hD)]; exact k1 _ _ e, ?_⟩
      rw [upd_same, tk1 ho, List.map_append, List.map_append]
      rfl
    rintro H12 ⟨k12, hD12⟩
    rw [ecz, List.take_length] at hD12
    refine ⟨by show 1 ≤ sizeLine; decide, fun q hq => ?_⟩
    have s13 := sameNew hq (.lst [V.str "zoe"])
    refine ⟨D, q, _, _, rfl, rfl, s13 _ _ hD12, upd_same, by rw [List.length_map, List.length_map]; exact Nat.le_of_lt (small1000 (by show cars.length + 1 ≤ 1000; omega)), fun L hL => ?_⟩
    have s14 := k12.trans (s13.trans (sameNew hL (.lst ((cars.map (·.name)).map V.str ++ [V.str "zoe"]))))
    have hLl : upd (upd H12 q (.lst [V.str "zoe"])) L (.lst ((cars.map (·.name)).map V.str ++ [V.str "zoe"])) L = some (.lst ((names cars ++ [("zoe" : Str)]).map V.str)) := by
      rw [upd_same, List.map_append]
      rfl
    have F14 := F11.same s14
    have G14 := G11.ext (ExtN.same s14)
    generalize upd (upd H12 q (.lst [V.str "zoe"])) L (.lst ((cars.map (·.name)).map V.str ++ [V.str "zoe"])) = H14 at F14 G14 hLl ⊢
    clear F11 G11 k12 s13 s14 hD hD12 hq hL hct
    have hll : ((names cars ++ [("zoe" : Str)]).map V.str).length = cars.length + 1 := by
      rw [List.length_map, List.length_append]
      unfold names
      rw [List.length_map]
      rfl
    refine ⟨L, rfl, ⟨_, SqL.of hLl⟩, for_it walk_list (fun j σ H => ∃ v10 v11, σ = [some (.ref sc), some (.ref r), some (.int (0 + (turn : Nat))), some (.ref l), some (.ref a), some (.ref p), some (.ref tq), some (.str c.name), some (.int c.start), some (.int c.pace), v10, v11, none] ∧ LawB K CR T H r sc l a p tq ns secs cars ∧ Cts H a ts cars ∧ H L = some (.lst ((names cars ++ [("zoe" : Str)]).map V.str)))
      ⟨_, _, rfl, F14, G14, hLl⟩ (fun j σ H _ ⟨_, _, _, _, _, e⟩ => SqL.of e) ?_ ?_⟩
    rotate_left
    · rintro σ H28 ⟨v10, v11, rfl, F28, G28, _⟩
      exact ⟨_, _, _, _, _, rfl, F28, G28⟩
    clear F14 G14 hLl
    rintro j y σ Hz H15 hj ⟨v10, v11, rfl, F15, G15, L15⟩ ⟨e, hy⟩
    subst e
    obtain ⟨o, ho, rfl⟩ : ∃ o, (names cars ++ [("zoe" : Str)])[j]? = some o ∧ y = V.str o := by
      rw [List.getElem?_map] at hy
      obtain ⟨t, z1, z2⟩ := Option.map_eq_some_iff.mp hy
      exact ⟨t, z1, z2.symm⟩
    have hom : o ∈ names cars ∨ o = "zoe" := by
      rcases List.mem_append.mp (List.mem_of_getElem? ho) with h | h
      · exact .inl h
      · exact .inr (List.mem_singleton.mp h)
    refine ⟨_, rfl, rfl, _, rfl, ?_⟩
    rcases hom with hom | rfl
    · have hne : o ≠ "zoe" := fun z => hz (z ▸ hom)
      rw [show (!decide (V.str o = V.str "zoe")) = true by simp [hne]]
      refine iteT ⟨_, rfl, _, rfl, _, rfl, _, rfl, l, a, secs, cars, c.name, o, rfl, F15.rn, F15.tp, SO, CO, c6, hcn, hom, fun H16 v s16 lv => ?_⟩
      have F16 := F15.same s16
      have G16 := G15.ext (ExtN.same s16)
      have L16 := s16 _ _ L15
      clear F15 G15 L15 s16
      refine ⟨F16.rc.tb, fun H17 fl e17 T17 hlam => ?_⟩
      have F17 := F16.ext e17 T17
      have G17 := G16.ext e17
      have L17 := ExtN.lst e17 L16
      refine ⟨fl, _, fun E => tCall (fun vs H Q E => spChain CR T vs H Q E ∨ spChainU CR CU T vs H Q E) [] E (tCons (tVar 5) (tCons (tVar 6) (tCons (tVar 7) (tCons (tVar 10) tNil)))), rfl, ?_, ?_, ?_, hlam, ?_⟩
      · exact lamS2_by (N := nLaw) (sc := defScope sLaw) (by decide +kernel)
      · exact fun _ _ _ _ _ _ => rfl
      · exact fun A' outer' s' H' E' f' c' hr' => pe_call GCh hr' (by rfl) BCh.at_ BCh.fn.kp BCh.bd .nil (passes_call (takes_of rfl rfl rfl rfl) fun _ _ _ _ h => h) (pa_cons (pv 5) (pa_cons (pv 6) (pa_cons (pv 7) (pa_cons (pv 10) pa_nil))))
      refine ⟨_, rfl, _, rfl, _, rfl, _, rfl, .inl ⟨p, tq, secs, cars, c.name, o, rfl, F17.rc, hcn, hom, fun H18 v2 e18 T18 cv => ?_⟩⟩
      have F18 := F17.ext e18 T18
      have G18 := G17.ext e18
      have L18 := ExtN.lst e18 L17
      have e68 := e17.trans e18
      refine ⟨_, rfl, ?_⟩
      rcases cv with ⟨rfl, hn⟩ | ⟨l2, kk, ch, rfl, hin, hcb, ec, hl2⟩
      · rcases lv with ⟨rfl, _⟩ | ⟨_, _, _, z, _⟩
        · exact .inl (like_non ⟨true, rfl, iteF ⟨_, _, rfl, F18, G18, L18⟩⟩)
        · exact absurd z hn
      · rcases lv with ⟨_, z⟩ | ⟨l3, xs, rfl, _, hl3, hx100, hxs⟩
        · exact absurd hin z
        · have ex := hxs kk ch hcb ec
          rw [ex] at hl2
          have hfa := bfs_falls (secs := secs) CO hcn kk ch hcb
          refine .inr (like_strs hl2 (ExtN.lst e68 hl3) (fun n hn => nok n (hfa.2.1 n (by rw [ex]; exact hn))) (by omega) fun H19 s19 => ?_)
          exact ⟨true, rfl, iteF ⟨_, _, rfl, F18.same s19, G18.ext (ExtN.same s19), s19 _ _ L18⟩⟩
    · rw [show (!decide (V.str "zoe" = V.str "zoe")) = false by simp]
      refine iteF ⟨by show 3 ≤ sizeLine; decide, fun td htd => ?_⟩
      have s16 := sameNew htd (.tup [V.str "error", V.str "UnknownCar", V.str "zoe"])
      have t16 : upd H15 td (.tup [V.str "error", V.str "UnknownCar", V.str "zoe"]) td = some (.tup [V.str "error", V.str "UnknownCar", V.str "zoe"]) := upd_same
      have F16 := F15.same s16
      have G16 := G15.ext (ExtN.same s16)
      have L16 := s16 _ _ L15
      generalize upd H15 td (.tup [V.str "error", V.str "UnknownCar", V.str "zoe"]) = H16 at s16 t16 F16 G16 L16 ⊢
      clear F15 G15 L15 s16 htd
      refine ⟨F16.rc.tb, fun H17 fl e17 T17 hlam => ?_⟩
      have F17 := F16.ext e17 T17
      have G17 := G16.ext e17
      have L17 := ExtN.lst e17 L16
      refine ⟨fl, _, fun E => tCall (fun vs H Q E => spChain CR T vs H Q E ∨ spChainU CR CU T vs H Q E) [] E (tCons (tVar 5) (tCons (tVar 6) (tCons (tVar 7) (tCons (tVar 10) tNil)))), rfl, ?_, ?_, ?_, hlam, ?_⟩
      · exact lamS2_by (N := nLaw) (sc := defScope sLaw) (by decide +kernel)
      · exact fun _ _ _ _ _ _ => rfl
      · exact fun A' outer' s' H' E' f' c' hr' => pe_call GCh hr' (by rfl) BCh.at_ BCh.fn.kp BCh.bd .nil (passes_call (takes_of rfl rfl rfl rfl) fun _ _ _ _ h => h) (pa_cons (pv 5) (pa_cons (pv 6) (pa_cons (pv 7) (pa_cons (pv 10) pa_nil))))
      refine ⟨_, rfl, _, rfl, _, rfl, _, rfl, .inr ⟨p, tq, secs, cars, c.name, "zoe", rfl, F17.rc, hcn, hz, fun H18 d fs s18 hd hf => ?_⟩⟩
      have F18 := F17.same s18
      have G18 := G17.ext (ExtN.same s18)
      have L18 := s18 _ _ L17
      refine ⟨CU, 3, .str "zoe", rfl, J3, by decide, .inr ⟨d, fs, rfl, hd⟩, .inr ⟨d, fs, rfl, hd, hf⟩, fun H19 tp s19 htp => ?_⟩
      have F19 := F18.same s19
      have G19 := G18.ext (ExtN.same s19)
      have L19 := s19 _ _ L18
      refine ⟨_, rfl, .inr (like_strsT (l := ["error", "UnknownCar", "zoe"]) htp (s19 _ _ (s18 _ _ (ExtN.tup e17 t16))) (by decide +kernel) (by decide) fun H20 s20 => ?_)⟩
      exact ⟨true, rfl, iteF ⟨_, _, rfl, F19.same s20, G19.ext (ExtN.same s20), s20 _ _ L19⟩⟩
end
end Sl

set_option Elab.async false
set_option linter.all false
set_option maxRecDepth 100000
set_option maxHeartbeats 4000000
namespace Sl
open PySem PySem.Spec L2 OwnR LamX
theorem tabS0 {H : Hp} {P : Addr} {q : Str} (h : H P = some (.tbl #[])) : TabS H P q := ⟨#[], h, by first | exact trivial | simp [PySem.W.TriplesOk] | decide, fun pos cv e => by first | cases e | simp [codeAmong] at e⟩
theorem all_mk {l : PySem.W.OpenLaw} {w : World} {K : PySem.W.Frag} {h : Heap} {mg : Str → Option Value} {fa C CR : Addr} (X : K.In h) (G : h.Ns mainGlobals mg) (hfa : mg "law" = some (.ref fa))
    {fin : Addr} {odin anin : Option Addr} {slin : Array (Option Value)} {ocin kVin dcin pmin ctin : Value} {cdin : Value}
    {fnm : Addr} {odnm annm : Option Addr} {slnm : Array (Option Value)} {ocnm kVnm dcnm pmnm ctnm : Value} {cdnm : Value}
    {fic : Addr} {odic anic : Option Addr} {slic : Array (Option Value)} {ocic kVic dcic pmic ctic : Value} {cdic : Value}
    {fcc : Addr} {odcc ancc : Option Addr} {slcc : Array (Option Value)} {occc kVcc dccc pmcc ctcc : Value} {cdcc : Value}
    {ccio Pio : Addr}
    {fio : Addr} {odio anio : Option Addr} {slio : Array (Option Value)} {ocio kVio dcio pmio ctio : Value}
    {ffo : Addr} {odfo anfo : Option Addr} {slfo : Array (Option Value)} {ocfo kVfo dcfo pmfo ctfo : Value} {cdfo : Value}
    {fdv : Addr} {oddv andv : Option Addr} {sldv : Array (Option Value)} {ocdv kVdv dcdv pmdv ctdv : Value} {cddv : Value}
    {fis : Addr} {odis anis : Option Addr} {slis : Array (Option Value)} {ocis kVis dcis pmis ctis : Value} {cdis : Value}
    {fuo : Addr} {oduo anuo : Option Addr} {sluo : Array (Option Value)} {ocuo kVuo dcuo pmuo ctuo : Value} {cduo : Value}
    {fkn : Addr} {odkn ankn : Option Addr} {slkn : Array (Option Value)} {ockn kVkn dckn pmkn ctkn : Value} {cdkn : Value}
    {fwi : Addr} {odwi anwi : Option Addr} {slwi : Array (Option Value)} {ocwi kVwi dcwi pmwi ctwi : Value} {cdwi : Value}
    {fch : Addr} {odch anch : Option Addr} {slch : Array (Option Value)} {occh kVch dcch pmch ctch : Value} {cdch : Value}
    {fsc : Addr} {odsc ansc : Option Addr} {slsc : Array (Option Value)} {ocsc kVsc dcsc pmsc ctsc : Value} {cdsc : Value}
    {fcb : Addr} {odcb ancb : Option Addr} {slcb : Array (Option Value)} {occb kVcb dccb pmcb ctcb : Value} {cdcb : Value}
    {fdi : Addr} {oddi andi : Option Addr} {sldi : Array (Option Value)} {ocdi kVdi dcdi pmdi ctdi : Value} {cddi : Value}
    {fne : Addr} {odne anne : Option Addr} {slne : Array (Option Value)} {ocne kVne dcne pmne ctne : Value} {cdne : Value}
    {fli : Addr} {odli anli : Option Addr} {slli : Array (Option Value)} {ocli kVli dcli pmli ctli : Value} {cdli : Value}
    {fpi : Addr} {odpi anpi : Option Addr} {slpi : Array (Option Value)} {ocpi kVpi dcpi pmpi ctpi : Value} {cdpi : Value}
    {fto : Addr} {odto anto : Option Addr} {slto : Array (Option Value)} {octo kVto dcto pmto ctto : Value} {cdto : Value}
    {fpa : Addr} {odpa anpa : Option Addr} {slpa : Array (Option Value)} {ocpa kVpa dcpa pmpa ctpa : Value} {cdpa : Value}
    {fma : Addr} {odma anma : Option Addr} {slma : Array (Option Value)} {ocma kVma dcma pmma ctma : Value} {cdma : Value}
    {fca : Addr} {odca anca : Option Addr} {slca : Array (Option Value)} {occa kVca dcca pmca ctca : Value} {cdca : Value}
    {fse : Addr} {odse anse : Option Addr} {slse : Array (Option Value)} {ocse kVse dcse pmse ctse : Value} {cdse : Value}
    {fdr : Addr} {oddr andr : Option Addr} {sldr : Array (Option Value)} {ocdr kVdr dcdr pmdr ctdr : Value} {cddr : Value}
    {fre : Addr} {odre anre : Option Addr} {slre : Array (Option Value)} {ocre kVre dcre pmre ctre : Value} {cdre : Value}
    {flc : Addr} {odlc anlc : Option Addr} {sllc : Array (Option Value)} {oclc kVlc dclc pmlc ctlc : Value} {cdlc : Value}
    {flo : Addr} {odlo anlo : Option Addr} {sllo : Array (Option Value)} {oclo kVlo dclo pmlo ctlo : Value} {cdlo : Value}
    {ccla Pla : Addr}
    {fla : Addr} {odla anla : Option Addr} {slla : Array (Option Value)} {ocla kVla dcla pmla ctla : Value}
    {fDi : Addr} {odDi anDi : Option Addr} {slDi : Array (Option Value)} {ocDi kVDi dcDi pmDi ctDi : Value} {cdDi : Value}
    {fDc : Addr} {odDc anDc : Option Addr} {slDc : Array (Option Value)} {ocDc kVDc dcDc pmDc ctDc : Value} {cdDc : Value}
    {fDp : Addr} {odDp anDp : Option Addr} {slDp : Array (Option Value)} {ocDp kVDp dcDp pmDp ctDp : Value} {cdDp : Value}
    {fDg : Addr} {odDg anDg : Option Addr} {slDg : Array (Option Value)} {ocDg kVDg dcDg pmDg ctDg : Value} {cdDg : Value}
    {Td : Addr} {odT : Option Addr} {ocT : Value} {slT : Array (Option Value)} {nT : Nat}
    {fDa : Addr} {odDa anDa : Option Addr} {slDa : Array (Option Value)} {ocDa kVDa dcDa pmDa ctDa : Value} {cdDa : Value}
    {fDh : Addr} {odDh anDh : Option Addr} {slDh : Array (Option Value)} {ocDh kVDh dcDh pmDh ctDh : Value} {cdDh : Value}
    {fDt : Addr} {odDt anDt : Option Addr} {slDt : Array (Option Value)} {ocDt kVDt dcDt pmDt ctDt : Value} {cdDt : Value}
    {fDe : Addr} {odDe anDe : Option Addr} {slDe : Array (Option Value)} {ocDe kVDe dcDe pmDe ctDe : Value} {cdDe : Value}
    {fRi : Addr} {odRi anRi : Option Addr} {slRi : Array (Option Value)} {ocRi kVRi dcRi pmRi ctRi : Value} {cdRi : Value}
    {fRa : Addr} {odRa anRa : Option Addr} {slRa : Array (Option Value)} {ocRa kVRa dcRa pmRa ctRa : Value} {cdRa : Value}
    {pRs : Addr} {rRsL : List Value}
    {fRs : Addr} {odRs anRs : Option Addr} {slRs : Array (Option Value)} {ocRs kVRs dcRs pmRs ctRs : Value} {cdRs : Value}
    {CE c0 c1 c2 CU c4 : Addr} {nmU qU : Str} {NU : Addr} {bsU : List Value} {snU : List Str} {subU : List Value} {abU : Bool} {colU : Option Bool} {ddU : Option Addr} {u0 u1 u2 u3 u5 : Option Value} {fUi : Addr} {odUi anUi : Option Addr} {slUi : Array (Option Value)} {ocUi kVUi dcUi pmUi cdUi ctUi : Value}
    {t0 t1 t2 t3 t4 t5 : Tok} {lp kp : Addr}
    (aC : PySem.W.nsIn K mainGlobals "Drive" = some (some (.ref C)))
    (aR : PySem.W.nsIn K mainGlobals "Road" = some (some (.ref CR)))
    (ain : PySem.W.nsIn K mainGlobals "is_number" = some (some (.ref fin)))
    (lin : K.lookup fin = some ⟨ocin, odin, .func (PySem.W.fnOf "is_number" "is_number" (defArgs sIsNumber) (defBody sIsNumber) (defScope sIsNumber) .none kVin dcin pmin anin cdin ctin), slin⟩)
    (cin : PySem.W.codeIn K cdin "is_number" = true)
    (kin : PySem.W.keepIn K (.ref fin) = true)
    (anm : PySem.W.nsIn K mainGlobals "is_name" = some (some (.ref fnm)))
    (lnm : K.lookup fnm = some ⟨ocnm, odnm, .func (PySem.W.fnOf "is_name" "is_name" (defArgs sIsName) (defBody sIsName) (defScope sIsName) .none kVnm dcnm pmnm annm cdnm ctnm), slnm⟩)
    (cnm : PySem.W.codeIn K cdnm "is_name" = true)
    (knm : PySem.W.keepIn K (.ref fnm) = true)
    (aic : PySem.W.nsIn K mainGlobals "is_car" = some (some (.ref fic)))
    (lic : K.lookup fic = some ⟨ocic, odic, .func (PySem.W.fnOf "is_car" "is_car" (defArgs sIsCar) (defBody sIsCar) (defScope sIsCar) .none kVic dcic pmic anic cdic ctic), slic⟩)
    (cic : PySem.W.codeIn K cdic "is_car" = true)
    (kic : PySem.W.keepIn K (.ref fic) = true)
    (acc : PySem.W.nsIn K mainGlobals "check_cars" = some (some (.ref fcc)))
    (lcc : K.lookup fcc = some ⟨occc, odcc, .func (PySem.W.fnOf "check_cars" "check_cars" (defArgs sCheckCars) (defBody sCheckCars) (defScope sCheckCars) .none kVcc dccc pmcc ancc cdcc ctcc), slcc⟩)
    (ccc : PySem.W.codeIn K cdcc "check_cars" = true)
    (kcc : PySem.W.keepIn K (.ref fcc) = true)
    (aio : PySem.W.nsIn K mainGlobals "_in_order" = some (some (.ref fio)))
    (lio : K.lookup fio = some ⟨ocio, odio, .func (PySem.W.fnOf "_in_order" "_in_order" (defArgs sInOrder) (defBody sInOrder) (defScope sInOrder) .none kVio dcio pmio anio (.ref ccio) ctio), slio⟩)
    (cio : PySem.W.codeIn K (.ref ccio) "_in_order" = true)
    (kio : PySem.W.keepIn K (.ref fio) = true)
    (hio : PySem.W.codeHdIn K ccio Pio = true)
    (nio : K.lookup Pio = none)
    (afo : PySem.W.nsIn K mainGlobals "_follow" = some (some (.ref ffo)))
    (lfo : K.lookup ffo = some ⟨ocfo, odfo, .func (PySem.W.fnOf "_follow" "_follow" (defArgs sFollow) (defBody sFollow) (defScope sFollow) .none kVfo dcfo pmfo anfo cdfo ctfo), slfo⟩)
    (cfo : PySem.W.codeIn K cdfo "_follow" = true)
    (kfo : PySem.W.keepIn K (.ref ffo) = true)
    (adv : PySem.W.nsIn K mainGlobals "drive_all" = some (some (.ref fdv)))
    (ldv : K.lookup fdv = some ⟨ocdv, oddv, .func (PySem.W.fnOf "drive_all" "drive_all" (defArgs sDriveAll) (defBody sDriveAll) (defScope sDriveAll) .none kVdv dcdv pmdv andv cddv ctdv), sldv⟩)
    (cdv : PySem.W.codeIn K cddv "drive_all" = true)
    (kdv : PySem.W.keepIn K (.ref fdv) = true)
    (ais : PySem.W.nsIn K mainGlobals "_is_section" = some (some (.ref fis)))
    (lis : K.lookup fis = some ⟨ocis, odis, .func (PySem.W.fnOf "_is_section" "_is_section" (defArgs sIsSection) (defBody sIsSection) (defScope sIsSection) .none kVis dcis pmis anis cdis ctis), slis⟩)
    (cis : PySem.W.codeIn K cdis "_is_section" = true)
    (kis : PySem.W.keepIn K (.ref fis) = true)
    (auo : PySem.W.nsIn K mainGlobals "_units_of" = some (some (.ref fuo)))
    (luo : K.lookup fuo = some ⟨ocuo, oduo, .func (PySem.W.fnOf "_units_of" "_units_of" (defArgs sUnitsOf) (defBody sUnitsOf) (defScope sUnitsOf) .none kVuo dcuo pmuo anuo cduo ctuo), sluo⟩)
    (cuo : PySem.W.codeIn K cduo "_units_of" = true)
    (kuo : PySem.W.keepIn K (.ref fuo) = true)
    (akn : PySem.W.nsIn K mainGlobals "check_known" = some (some (.ref fkn)))
    (lkn : K.lookup fkn = some ⟨ockn, odkn, .func (PySem.W.fnOf "check_known" "check_known" (defArgs sCheckKnown) (defBody sCheckKnown) (defScope sCheckKnown) .none kVkn dckn pmkn ankn cdkn ctkn), slkn⟩)
    (ckn : PySem.W.codeIn K cdkn "check_known" = true)
    (kkn : PySem.W.keepIn K (.ref fkn) = true)
    (awi : PySem.W.nsIn K mainGlobals "_without" = some (some (.ref fwi)))
    (lwi : K.lookup fwi = some ⟨ocwi, odwi, .func (PySem.W.fnOf "_without" "_without" (defArgs sWithout) (defBody sWithout) (defScope sWithout) .none kVwi dcwi pmwi anwi cdwi ctwi), slwi⟩)
    (cwi : PySem.W.codeIn K cdwi "_without" = true)
    (kwi : PySem.W.keepIn K (.ref fwi) = true)
    (ach : PySem.W.nsIn K mainGlobals "_changed" = some (some (.ref fch)))
    (lch : K.lookup fch = some ⟨occh, odch, .func (PySem.W.fnOf "_changed" "_changed" (defArgs sChanged) (defBody sChanged) (defScope sChanged) .none kVch dcch pmch anch cdch ctch), slch⟩)
    (cch : PySem.W.codeIn K cdch "_changed" = true)
    (kch : PySem.W.keepIn K (.ref fch) = true)
    (asc : PySem.W.nsIn K mainGlobals "_shortest_chain" = some (some (.ref fsc)))
    (lsc : K.lookup fsc = some ⟨ocsc, odsc, .func (PySem.W.fnOf "_shortest_chain" "_shortest_chain" (defArgs sShortestChain) (defBody sShortestChain) (defScope sShortestChain) .none kVsc dcsc pmsc ansc cdsc ctsc), slsc⟩)
    (csc : PySem.W.codeIn K cdsc "_shortest_chain" = true)
    (ksc : PySem.W.keepIn K (.ref fsc) = true)
    (acb : PySem.W.nsIn K mainGlobals "chain_between" = some (some (.ref fcb)))
    (lcb : K.lookup fcb = some ⟨occb, odcb, .func (PySem.W.fnOf "chain_between" "chain_between" (defArgs sChainBetween) (defBody sChainBetween) (defScope sChainBetween) .none kVcb dccb pmcb ancb cdcb ctcb), slcb⟩)
    (ccb : PySem.W.codeIn K cdcb "chain_between" = true)
    (kcb : PySem.W.keepIn K (.ref fcb) = true)
    (adi : PySem.W.nsIn K mainGlobals "_law_dice" = some (some (.ref fdi)))
    (ldi : K.lookup fdi = some ⟨ocdi, oddi, .func (PySem.W.fnOf "_law_dice" "_law_dice" (defArgs sDice) (defBody sDice) (defScope sDice) .none kVdi dcdi pmdi andi cddi ctdi), sldi⟩)
    (cdi : PySem.W.codeIn K cddi "_law_dice" = true)
    (kdi : PySem.W.keepIn K (.ref fdi) = true)
    (ane : PySem.W.nsIn K mainGlobals "_law_next" = some (some (.ref fne)))
    (lne : K.lookup fne = some ⟨ocne, odne, .func (PySem.W.fnOf "_law_next" "_law_next" (defArgs sNext) (defBody sNext) (defScope sNext) .none kVne dcne pmne anne cdne ctne), slne⟩)
    (cne : PySem.W.codeIn K cdne "_law_next" = true)
    (kne : PySem.W.keepIn K (.ref fne) = true)
    (ali : PySem.W.nsIn K mainGlobals "_law_like" = some (some (.ref fli)))
    (lli : K.lookup fli = some ⟨ocli, odli, .func (PySem.W.fnOf "_law_like" "_law_like" (defArgs sLike) (defBody sLike) (defScope sLike) .none kVli dcli pmli anli cdli ctli), slli⟩)
    (cli : PySem.W.codeIn K cdli "_law_like" = true)
    (kli : PySem.W.keepIn K (.ref fli) = true)
    (api : PySem.W.nsIn K mainGlobals "_law_pick" = some (some (.ref fpi)))
    (lpi : K.lookup fpi = some ⟨ocpi, odpi, .func (PySem.W.fnOf "_law_pick" "_law_pick" (defArgs sPick) (defBody sPick) (defScope sPick) .none kVpi dcpi pmpi anpi cdpi ctpi), slpi⟩)
    (cpi : PySem.W.codeIn K cdpi "_law_pick" = true)
    (kpi : PySem.W.keepIn K (.ref fpi) = true)
    (ato : PySem.W.nsIn K mainGlobals "_law_told" = some (some (.ref fto)))
    (lto : K.lookup fto = some ⟨octo, odto, .func (PySem.W.fnOf "_law_told" "_law_told" (defArgs sTold) (defBody sTold) (defScope sTold) .none kVto dcto pmto anto cdto ctto), slto⟩)
    (cto : PySem.W.codeIn K cdto "_law_told" = true)
    (kto : PySem.W.keepIn K (.ref fto) = true)
    (apa : PySem.W.nsIn K mainGlobals "_law_parts" = some (some (.ref fpa)))
    (lpa : K.lookup fpa = some ⟨ocpa, odpa, .func (PySem.W.fnOf "_law_parts" "_law_parts" (defArgs sParts) (defBody sParts) (defScope sParts) .none kVpa dcpa pmpa anpa cdpa ctpa), slpa⟩)
    (cpa : PySem.W.codeIn K cdpa "_law_parts" = true)
    (kpa : PySem.W.keepIn K (.ref fpa) = true)
    (ama : PySem.W.nsIn K mainGlobals "_law_made" = some (some (.ref fma)))
    (lma : K.lookup fma = some ⟨ocma, odma, .func (PySem.W.fnOf "_law_made" "_law_made" (defArgs sMade) (defBody sMade) (defScope sMade) .none kVma dcma pmma anma cdma ctma), slma⟩)
    (cma : PySem.W.codeIn K cdma "_law_made" = true)
    (kma : PySem.W.keepIn K (.ref fma) = true)
    (aca : PySem.W.nsIn K mainGlobals "_law_cars" = some (some (.ref fca)))
    (lca : K.lookup fca = some ⟨occa, odca, .func (PySem.W.fnOf "_law_cars" "_law_cars" (defArgs sCars) (defBody sCars) (defScope sCars) .none kVca dcca pmca anca cdca ctca), slca⟩)
    (cca : PySem.W.codeIn K cdca "_law_cars" = true)
    (kca : PySem.W.keepIn K (.ref fca) = true)
    (ase : PySem.W.nsIn K mainGlobals "_law_section" = some (some (.ref fse)))
    (lse : K.lookup fse = some ⟨ocse, odse, .func (PySem.W.fnOf "_law_section" "_law_section" (defArgs sSection) (defBody sSection) (defScope sSection) .none kVse dcse pmse anse cdse ctse), slse⟩)
    (cse : PySem.W.codeIn K cdse "_law_section" = true)
    (kse : PySem.W.keepIn K (.ref fse) = true)
    (adr : PySem.W.nsIn K mainGlobals "_law_driven" = some (some (.ref fdr)))
    (ldr : K.lookup fdr = some ⟨ocdr, oddr, .func (PySem.W.fnOf "_law_driven" "_law_driven" (defArgs sDriven) (defBody sDriven) (defScope sDriven) .none kVdr dcdr pmdr andr cddr ctdr), sldr⟩)
    (cdr : PySem.W.codeIn K cddr "_law_driven" = true)
    (kdr : PySem.W.keepIn K (.ref fdr) = true)
    (are : PySem.W.nsIn K mainGlobals "_law_rest" = some (some (.ref fre)))
    (lre : K.lookup fre = some ⟨ocre, odre, .func (PySem.W.fnOf "_law_rest" "_law_rest" (defArgs sRest) (defBody sRest) (defScope sRest) .none kVre dcre pmre anre cdre ctre), slre⟩)
    (cre : PySem.W.codeIn K cdre "_law_rest" = true)
    (kre : PySem.W.keepIn K (.ref fre) = true)
    (alc : PySem.W.nsIn K mainGlobals "_law_chain" = some (some (.ref flc)))
    (llc : K.lookup flc = some ⟨oclc, odlc, .func (PySem.W.fnOf "_law_chain" "_law_chain" (defArgs sChain) (defBody sChain) (defScope sChain) .none kVlc dclc pmlc anlc cdlc ctlc), sllc⟩)
    (clc : PySem.W.codeIn K cdlc "_law_chain" = true)
    (klc : PySem.W.keepIn K (.ref flc) = true)
    (alo : PySem.W.nsIn K mainGlobals "_law_long_chain" = some (some (.ref flo)))
    (llo : K.lookup flo = some ⟨oclo, odlo, .func (PySem.W.fnOf "_law_long_chain" "_law_long_chain" (defArgs sLongChain) (defBody sLongChain) (defScope sLongChain) .none kVlo dclo pmlo anlo cdlo ctlo), sllo⟩)
    (clo : PySem.W.codeIn K cdlo "_law_long_chain" = true)
    (klo : PySem.W.keepIn K (.ref flo) = true)
    (ala : PySem.W.nsIn K mainGlobals "law" = some (some (.ref fla)))
    (lla : K.lookup fla = some ⟨ocla, odla, .func (PySem.W.fnOf "law" "law" (defArgs sLaw) (defBody sLaw) (defScope sLaw) .none kVla dcla pmla anla (.ref ccla) ctla), slla⟩)
    (cla : PySem.W.codeIn K (.ref ccla) "law" = true)
    (kla : PySem.W.keepIn K (.ref fla) = true)
    (hla : PySem.W.codeHdIn K ccla Pla = true)
    (nla : K.lookup Pla = none)
    (aDi : PySem.W.findIn K (.ref C) "__init__" = some (some (.ref fDi)))
    (iDi : PySem.W.isFn K (.ref fDi) = true)
    (lDi : K.lookup fDi = some ⟨ocDi, odDi, .func (PySem.W.fnOf "__init__" "Drive.__init__" (defArgs sDInit) (defBody sDInit) (defScope sDInit) .none kVDi dcDi pmDi anDi cdDi ctDi), slDi⟩)
    (cDi : PySem.W.codeIn K cdDi "Drive.__init__" = true)
    (kDi : PySem.W.keepIn K (.ref fDi) = true)
    (aDc : PySem.W.findIn K (.ref C) "_check_car" = some (some (.ref fDc)))
    (iDc : PySem.W.isFn K (.ref fDc) = true)
    (lDc : K.lookup fDc = some ⟨ocDc, odDc, .func (PySem.W.fnOf "_check_car" "Drive._check_car" (defArgs sDCheckCar) (defBody sDCheckCar) (defScope sDCheckCar) .none kVDc dcDc pmDc anDc cdDc ctDc), slDc⟩)
    (cDc : PySem.W.codeIn K cdDc "Drive._check_car" = true)
    (kDc : PySem.W.keepIn K (.ref fDc) = true)
    (aDp : PySem.W.findIn K (.ref C) "_check_place" = some (some (.ref fDp)))
    (iDp : PySem.W.isFn K (.ref fDp) = true)
    (lDp : K.lookup fDp = some ⟨ocDp, odDp, .func (PySem.W.fnOf "_check_place" "Drive._check_place" (defArgs sDCheckPlace) (defBody sDCheckPlace) (defScope sDCheckPlace) .none kVDp dcDp pmDp anDp cdDp ctDp), slDp⟩)
    (cDp : PySem.W.codeIn K cdDp "Drive._check_place" = true)
    (kDp : PySem.W.keepIn K (.ref fDp) = true)
    (aDg : PySem.W.findIn K (.ref C) "__getitem__" = some (some (.ref fDg)))
    (iDg : PySem.W.isFn K (.ref fDg) = true)
    (lDg : K.lookup fDg = some ⟨ocDg, odDg, .func (PySem.W.fnOf "__getitem__" "Drive.__getitem__" (defArgs sDGet) (defBody sDGet) (defScope sDGet) .none kVDg dcDg pmDg anDg cdDg ctDg), slDg⟩)
    (cDg : PySem.W.codeIn K cdDg "Drive.__getitem__" = true)
    (kDg : PySem.W.keepIn K (.ref fDg) = true)
    (aDa : PySem.W.findIn K (.ref C) "__call__" = some (some (.ref fDa)))
    (iDa : PySem.W.isFn K (.ref fDa) = true)
    (lDa : K.lookup fDa = some ⟨ocDa, odDa, .func (PySem.W.fnOf "__call__" "Drive.__call__" (defArgs sDCall) (defBody sDCall) (defScope sDCall) (.ref Td) kVDa dcDa pmDa anDa cdDa ctDa), slDa⟩)
    (cDa : PySem.W.codeIn K cdDa "Drive.__call__" = true)
    (kDa : PySem.W.keepIn K (.ref fDa) = true)
    (lT : K.lookup Td = some ⟨ocT, odT, .seq #[Value.none] nT, slT⟩)
    (aDh : PySem.W.findIn K (.ref C) "__contains__" = some (some (.ref fDh)))
    (iDh : PySem.W.isFn K (.ref fDh) = true)
    (lDh : K.lookup fDh = some ⟨ocDh, odDh, .func (PySem.W.fnOf "__contains__" "Drive.__contains__" (defArgs sDHas) (defBody sDHas) (defScope sDHas) .none kVDh dcDh pmDh anDh cdDh ctDh), slDh⟩)
    (cDh : PySem.W.codeIn K cdDh "Drive.__contains__" = true)
    (kDh : PySem.W.keepIn K (.ref fDh) = true)
    (aDt : PySem.W.findIn K (.ref C) "_check_section" = some (some (.ref fDt)))
    (iDt : PySem.W.isFn K (.ref fDt) = true)
    (lDt : K.lookup fDt = some ⟨ocDt, odDt, .func (PySem.W.fnOf "_check_section" "Drive._check_section" (defArgs sDCheckSection) (defBody sDCheckSection) (defScope sDCheckSection) .none kVDt dcDt pmDt anDt cdDt ctDt), slDt⟩)
    (cDt : PySem.W.codeIn K cdDt "Drive._check_section" = true)
    (kDt : PySem.W.keepIn K (.ref fDt) = true)
    (aDe : PySem.W.findIn K (.ref C) "leader" = some (some (.ref fDe)))
    (iDe : PySem.W.isFn K (.ref fDe) = true)
    (lDe : K.lookup fDe = some ⟨ocDe, odDe, .func (PySem.W.fnOf "leader" "Drive.leader" (defArgs sDLeader) (defBody sDLeader) (defScope sDLeader) .none kVDe dcDe pmDe anDe cdDe ctDe), slDe⟩)
    (cDe : PySem.W.codeIn K cdDe "Drive.leader" = true)
    (kDe : PySem.W.keepIn K (.ref fDe) = true)
    (aRi : PySem.W.findIn K (.ref CR) "__init__" = some (some (.ref fRi)))
    (iRi : PySem.W.isFn K (.ref fRi) = true)
    (lRi : K.lookup fRi = some ⟨ocRi, odRi, .func (PySem.W.fnOf "__init__" "Road.__init__" (defArgs sRInit) (defBody sRInit) (defScope sRInit) .none kVRi dcRi pmRi anRi cdRi ctRi), slRi⟩)
    (cRi : PySem.W.codeIn K cdRi "Road.__init__" = true)
    (kRi : PySem.W.keepIn K (.ref fRi) = true)
    (aRa : PySem.W.findIn K (.ref CR) "__add__" = some (some (.ref fRa)))
    (iRa : PySem.W.isFn K (.ref fRa) = true)
    (lRa : K.lookup fRa = some ⟨ocRa, odRa, .func (PySem.W.fnOf "__add__" "Road.__add__" (defArgs sRAdd) (defBody sRAdd) (defScope sRAdd) .none kVRa dcRa pmRa anRa cdRa ctRa), slRa⟩)
    (cRa : PySem.W.codeIn K cdRa "Road.__add__" = true)
    (kRa : PySem.W.keepIn K (.ref fRa) = true)
    (aRs : PySem.W.findIn K (.ref CR) "sections" = some (some (.ref pRs)))
    (gRs : PySem.W.specialIn K (.ref pRs) "__get__" = some (some (.builtin "property.__get__")))
    (tRs : PySem.W.takesIn K (.ref pRs) = some true)
    (rRs : PySem.W.recIn K pRs "property" = some (.ref fRs :: rRsL))
    (lRs : K.lookup fRs = some ⟨ocRs, odRs, .func (PySem.W.fnOf "sections" "Road.sections" (defArgs sRSections) (defBody sRSections) (defScope sRSections) .none kVRs dcRs pmRs anRs cdRs ctRs), slRs⟩)
    (cRs : PySem.W.codeIn K cdRs "Road.sections" = true)
    (kRs : PySem.W.keepIn K (.ref fRs) = true)
    (jDg : PySem.W.fnIn K fDg = true)
    (jDa : PySem.W.fnIn K fDa = true)
    (pgC : PySem.W.plainGet K C Str.empty = true)
    (hdC : PySem.W.hasDictIn K C = true)
    (poC : PySem.W.plainOver K C = true)
    (saC : PySem.W.findIn K (.ref C) "__setattr__" = some (some (.builtin "object.__setattr__")))
    (mkC : PySem.W.makesIn K C = true)
    (kcC : PySem.W.keepIn K (.ref C) = true)
    (pgR : PySem.W.plainGet K CR Str.empty = true)
    (hdR : PySem.W.hasDictIn K CR = true)
    (poR : PySem.W.plainOver K CR = true)
    (saR : PySem.W.findIn K (.ref CR) "__setattr__" = some (some (.builtin "object.__setattr__")))
    (mkR : PySem.W.makesIn K CR = true)
    (kcR : PySem.W.keepIn K (.ref CR) = true)
    (nC_sections : PySem.W.findIn K (.ref C) "_sections" = some none)
    (nC_paces : PySem.W.findIn K (.ref C) "_paces" = some none)
    (nC_ticks : PySem.W.findIn K (.ref C) "_ticks" = some none)
    (nC_orders : PySem.W.findIn K (.ref C) "_orders" = some none)
    (nC_leaders : PySem.W.findIn K (.ref C) "_leaders" = some none)
    (nR_sections : PySem.W.findIn K (.ref CR) "_sections" = some none)
    (nR_units : PySem.W.findIn K (.ref CR) "_units" = some none)
    (z_isinstance : PySem.W.nsIn K mainGlobals "isinstance" = some none)
    (z_int : PySem.W.nsIn K mainGlobals "int" = some none)
    (z_bool : PySem.W.nsIn K mainGlobals "bool" = some none)
    (z_str : PySem.W.nsIn K mainGlobals "str" = some none)
    (z_tuple : PySem.W.nsIn K mainGlobals "tuple" = some none)
    (z_len : PySem.W.nsIn K mainGlobals "len" = some none)
    (z_all : PySem.W.nsIn K mainGlobals "all" = some none)
    (z_enumerate : PySem.W.nsIn K mainGlobals "enumerate" = some none)
    (z_sorted : PySem.W.nsIn K mainGlobals "sorted" = some none)
    (z_list : PySem.W.nsIn K mainGlobals "list" = some none)
    (z_range : PySem.W.nsIn K mainGlobals "range" = some none)
    (z_sum : PySem.W.nsIn K mainGlobals "sum" = some none)
    (z_max : PySem.W.nsIn K mainGlobals "max" = some none)
    (z_ValueError : PySem.W.nsIn K mainGlobals "ValueError" = some none)
    (v0 : PySem.W.nsIn K mainGlobals "MOST_CARS" = some (some (.int 10 t0)))
    (v1 : PySem.W.nsIn K mainGlobals "LONGEST_NAME" = some (some (.int 8 t1)))
    (v2 : PySem.W.nsIn K mainGlobals "LATEST_START" = some (some (.int 1000000 t2)))
    (v3 : PySem.W.nsIn K mainGlobals "SLOWEST_PACE" = some (some (.int 60 t3)))
    (v4 : PySem.W.nsIn K mainGlobals "MOST_SECTIONS" = some (some (.int 12 t4)))
    (v5 : PySem.W.nsIn K mainGlobals "LONGEST_SECTION" = some (some (.int 99 t5)))
    (aL : PySem.W.nsIn K mainGlobals "LETTERS" = some (some (.ref lp)))
    (aK : PySem.W.nsIn K mainGlobals "KINDS" = some (some (.ref kp)))
    (dlN : KDct K w lp "narrow" (.str "n"))
    (dlW : KDct K w lp "wide" (.str "w"))
    (dkN : KDct K w kp "n" (.str "narrow"))
    (dkW : KDct K w kp "w" (.str "wide"))
    (kM : (kp == sysModules) = false)
    (eE : PySem.W.nsIn K mainGlobals "RoadError" = some (some (.ref CE)))
    (e0 : PySem.W.nsIn K mainGlobals "InvalidRoad" = some (some (.ref c0)))
    (e1 : PySem.W.nsIn K mainGlobals "InvalidCars" = some (some (.ref c1)))
    (e2 : PySem.W.nsIn K mainGlobals "UnknownSection" = some (some (.ref c2)))
    (e3 : PySem.W.nsIn K mainGlobals "UnknownCar" = some (some (.ref CU)))
    (e4 : PySem.W.nsIn K mainGlobals "InvalidNumber" = some (some (.ref c4)))
    (dEs : PySem.W.subIn K (.ref CE) (.type "BaseException") = some true)
    (dEh : PySem.W.hasDictIn K CE = true)
    (dEt : PySem.W.typeIn K (.ref CE) = some (.type "type"))
    (d0c : PySem.W.isClsIn K c0 = true)
    (d0t : PySem.W.typeIn K (.ref c0) = some (.type "type"))
    (d1c : PySem.W.isClsIn K c1 = true)
    (d1t : PySem.W.typeIn K (.ref c1) = some (.type "type"))
    (d2c : PySem.W.isClsIn K c2 = true)
    (d2t : PySem.W.typeIn K (.ref c2) = some (.type "type"))
    (d3c : PySem.W.isClsIn K CU = true)
    (d3t : PySem.W.typeIn K (.ref CU) = some (.type "type"))
    (d4c : PySem.W.isClsIn K c4 = true)
    (d4t : PySem.W.typeIn K (.ref c4) = some (.type "type"))
    (r3cl : PySem.W.isClsIn K CU = true)
    (r3ga : PySem.W.findIn K (.ref CU) "__getattribute__" = some (some (.builtin "BaseException.__getattribute__")))
    (r3gg : PySem.W.findIn K (.ref CU) "__getattr__" = some none)
    (r3sb : PySem.W.subIn K (.ref CU) (.type "BaseException") = some true)
    (r3hd : PySem.W.hasDictIn K CU = true)
    (r3ct : PySem.W.findIn K (.ref CU) "__class__" = some (some (.builtin "object.__class__")))
    (r3mr : PySem.W.mroIn K CU (.type "object") = some true)
    (r3ix : PySem.W.findIn K (.ref CU) "index" = some none)
    (r3nm : PySem.W.findIn K (.ref CU) "name" = some none)
    (r3xe : PySem.W.subIn K (.ref CU) (.ref CE) = some true)
    (r3kv : PySem.W.subIn K (.ref CU) (.type "ValueError") = some true)
    (r3k0 : PySem.W.subIn K (.ref CU) (.ref c0) = some false)
    (r3k1 : PySem.W.subIn K (.ref CU) (.ref c1) = some false)
    (r3k2 : PySem.W.subIn K (.ref CU) (.ref c2) = some false)
    (r3k3 : PySem.W.subIn K (.ref CU) (.ref CU) = some true)
    (r3k4 : PySem.W.subIn K (.ref CU) (.ref c4) = some false)
    (xU : K.lookup CU = some (PySem.excClassObj nmU qU CU NU bsU [.ref CE, .type "ValueError", .type "Exception", .type "BaseException", .type "object"] true snU subU abU colU ddU u0 u1 u2 u3 u5 "ValueError.__new__"))
    (saU : PySem.W.findIn K (.ref CU) "__setattr__" = some (some (.builtin "object.__setattr__")))
    (kU : PySem.W.keepIn K (.ref CU) = true)
    (aUi : PySem.W.findIn K (.ref CU) "__init__" = some (some (.ref fUi)))
    (tUi : PySem.W.typeIn K (.ref fUi) = some (.type "function"))
    (lUi : K.lookup fUi = some ⟨ocUi, odUi, .func (PySem.W.fnOf "__init__" "UnknownCar.__init__" (defArgs sUnknownCarInit) (defBody sUnknownCarInit) (defScope sUnknownCarInit) .none kVUi dcUi pmUi anUi cdUi ctUi), slUi⟩)
    (cUi : PySem.W.codeIn K cdUi "UnknownCar.__init__" = true)
    (kUi : PySem.W.keepIn K (.ref fUi) = true)
    (qhn : PySem.W.specialIn K (.builtin "object.__class__") "__get__" = some (some (.builtin "getset_descriptor.__get__")))
    (qht : PySem.W.takesIn K (.builtin "object.__class__") = some true)
    (qha : PySem.W.findIn K (.ref CR) "__class__" = some (some (.builtin "object.__class__")))
    (qhm : PySem.W.mroIn K CR (.type "object") = some true)
    (qsf : PySem.W.selfFirst K CR = true)
    (neP01 : Pio ≠ Pla)
    (hT : ∀ P ∈ [Pio, Pla], h.get? P = some { cls := .none, data := .fields #[] }) : LamX.LawAtS l w K CX0 11 63 "_law_script" mg fa h := by
  have e := hfa.symm.trans (PySem.W.mg_of X G ala)
  cases e
  have M : Mg mg := ⟨PySem.W.mg_none_of X G z_isinstance, PySem.W.mg_none_of X G z_int, PySem.W.mg_none_of X G z_bool, PySem.W.mg_none_of X G z_str, PySem.W.mg_none_of X G z_tuple, PySem.W.mg_none_of X G z_len, PySem.W.mg_none_of X G z_all, PySem.W.mg_none_of X G z_enumerate, PySem.W.mg_none_of X G z_sorted, PySem.W.mg_none_of X G z_list, PySem.W.mg_none_of X G z_range, PySem.W.mg_none_of X G z_sum, ⟨_, PySem.W.mg_of X G v0⟩, ⟨_, PySem.W.mg_of X G v1⟩, ⟨_, PySem.W.mg_of X G v2⟩, ⟨_, PySem.W.mg_of X G v3⟩, ⟨_, PySem.W.mg_of X G v4⟩, ⟨_, PySem.W.mg_of X G v5⟩⟩
  have R : DriveT K mg C := ⟨⟨pgC, hdC, poC, saC⟩, nC_sections, nC_paces, nC_ticks, nC_orders, nC_leaders, PySem.W.mg_of X G aC⟩
  have RR : RoadT K w mg CR lp kp := ⟨⟨pgR, hdR, poR, saR⟩, nR_sections, nR_units, PySem.W.mg_of X G aR, PySem.W.mg_of X G aL, PySem.W.mg_of X G aK, dlN, dlW, dkN, dkW, kM⟩
  have Fin := fun_mk (st := sIsNumber) lin cin kin
  have Bin : Fb K mg "is_number" sIsNumber ["value", "least", "most"] fin _ := ⟨Fin, PySem.W.mg_of X G ain, Fin.binds (ps := ["value", "least", "most"]) fun _ _ _ _ _ _ us hl => match us, hl with | [_, _, _], _ => rfl⟩
  have Fnm := fun_mk (st := sIsName) lnm cnm knm
  have Bnm : Fb K mg "is_name" sIsName ["value"] fnm _ := ⟨Fnm, PySem.W.mg_of X G anm, Fnm.binds (ps := ["value"]) fun _ _ _ _ _ _ us hl => match us, hl with | [_], _ => rfl⟩
  have Fic := fun_mk (st := sIsCar) lic cic kic
  have Bic : Fb K mg "is_car" sIsCar ["value"] fic _ := ⟨Fic, PySem.W.mg_of X G aic, Fic.binds (ps := ["value"]) fun _ _ _ _ _ _ us hl => match us, hl with | [_], _ => rfl⟩
  have Fcc := fun_mk (st := sCheckCars) lcc ccc kcc
  have Bcc : Fb K mg "check_cars" sCheckCars ["cars"] fcc _ := ⟨Fcc, PySem.W.mg_of X G acc, Fcc.binds (ps := ["cars"]) fun _ _ _ _ _ _ us hl => match us, hl with | [_], _ => rfl⟩
  have Bio : FbC K mg "_in_order" sInOrder ["names", "ticks"] fio _ ccio := ⟨⟨⟨_, _, _, _, _, _, _, _, rfl, lio, cio⟩, kio⟩, PySem.W.mg_of X G aio, .all fun us hl => match us, hl with | [_, _], _ => rfl⟩
  have Ffo := fun_mk (st := sFollow) lfo cfo kfo
  have Bfo : Fb K mg "_follow" sFollow ["order", "free"] ffo _ := ⟨Ffo, PySem.W.mg_of X G afo, Ffo.binds (ps := ["order", "free"]) fun _ _ _ _ _ _ us hl => match us, hl with | [_, _], _ => rfl⟩
  have Fdv := fun_mk (st := sDriveAll) ldv cdv kdv
  have Bdv : Fb K mg "drive_all" sDriveAll ["sections", "starts", "paces"] fdv _ := ⟨Fdv, PySem.W.mg_of X G adv, Fdv.binds (ps := ["sections", "starts", "paces"]) fun _ _ _ _ _ _ us hl => match us, hl with | [_, _, _], _ => rfl⟩
  have Fis := fun_mk (st := sIsSection) lis cis kis
  have Bis : Fb K mg "_is_section" sIsSection ["value"] fis _ := ⟨Fis, PySem.W.mg_of X G ais, Fis.binds (ps := ["value"]) fun _ _ _ _ _ _ us hl => match us, hl with | [_], _ => rfl⟩
  have Fuo := fun_mk (st := sUnitsOf) luo cuo kuo
  have Buo : Fb K mg "_units_of" sUnitsOf ["sections"] fuo _ := ⟨Fuo, PySem.W.mg_of X G auo, Fuo.binds (ps := ["sections"]) fun _ _ _ _ _ _ us hl => match us, hl with | [_], _ => rfl⟩
  have Fkn := fun_mk (st := sCheckKnown) lkn ckn kkn
  have Bkn : Fb K mg "check_known" sCheckKnown ["cars", "name"] fkn _ := ⟨Fkn, PySem.W.mg_of X G akn, Fkn.binds (ps := ["cars", "name"]) fun _ _ _ _ _ _ us hl => match us, hl with | [_, _], _ => rfl⟩
  have Fwi := fun_mk (st := sWithout) lwi cwi kwi
  have Bwi : Fb K mg "_without" sWithout ["cars", "name"] fwi _ := ⟨Fwi, PySem.W.mg_of X G awi, Fwi.binds (ps := ["cars", "name"]) fun _ _ _ _ _ _ us hl => match us, hl with | [_, _], _ => rfl⟩
  have Fch := fun_mk (st := sChanged) lch cch kch
  have Bch : Fb K mg "_changed" sChanged ["cars", "drive", "less"] fch _ := ⟨Fch, PySem.W.mg_of X G ach, Fch.binds (ps := ["cars", "drive", "less"]) fun _ _ _ _ _ _ us hl => match us, hl with | [_, _, _], _ => rfl⟩
  have Fsc := fun_mk (st := sShortestChain) lsc csc ksc
  have Bsc : Fb K mg "_shortest_chain" sShortestChain ["leaders", "first", "last"] fsc _ := ⟨Fsc, PySem.W.mg_of X G asc, Fsc.binds (ps := ["leaders", "first", "last"]) fun _ _ _ _ _ _ us hl => match us, hl with | [_, _, _], _ => rfl⟩
  have Fcb := fun_mk (st := sChainBetween) lcb ccb kcb
  have Bcb : Fb K mg "chain_between" sChainBetween ["road", "cars", "name", "other"] fcb _ := ⟨Fcb, PySem.W.mg_of X G acb, Fcb.binds (ps := ["road", "cars", "name", "other"]) fun _ _ _ _ _ _ us hl => match us, hl with | [_, _, _, _], _ => rfl⟩
  have Fdi := fun_mk (st := sDice) ldi cdi kdi
  have Bdi : Fb K mg "_law_dice" sDice ["_law_script"] fdi _ := ⟨Fdi, PySem.W.mg_of X G adi, Fdi.binds (ps := ["_law_script"]) fun _ _ _ _ _ _ us hl => match us, hl with | [_], _ => rfl⟩
  have Fne := fun_mk (st := sNext) lne cne kne
  have Bne : Fb K mg "_law_next" sNext ["_law_dice_here", "_law_many"] fne _ := ⟨Fne, PySem.W.mg_of X G ane, Fne.binds (ps := ["_law_dice_here", "_law_many"]) fun _ _ _ _ _ _ us hl => match us, hl with | [_, _], _ => rfl⟩
  have Fli := fun_mk (st := sLike) lli cli kli
  have Bli : Fb K mg "_law_like" sLike ["_law_found", "_law_due"] fli _ := ⟨Fli, PySem.W.mg_of X G ali, Fli.binds (ps := ["_law_found", "_law_due"]) fun _ _ _ _ _ _ us hl => match us, hl with | [_, _], _ => rfl⟩
  have Fpi := fun_mk (st := sPick) lpi cpi kpi
  have Bpi : Fb K mg "_law_pick" sPick ["_law_d", "_law_some"] fpi _ := ⟨Fpi, PySem.W.mg_of X G api, Fpi.binds (ps := ["_law_d", "_law_some"]) fun _ _ _ _ _ _ us hl => match us, hl with | [_, _], _ => rfl⟩
  have Fto := fun_mk (st := sTold) lto cto kto
  have Bto : Fb K mg "_law_told" sTold ["_law_work"] fto _ := ⟨Fto, PySem.W.mg_of X G ato, Fto.binds (ps := ["_law_work"]) fun _ _ _ _ _ _ us hl => match us, hl with | [_], _ => rfl⟩
  have Fpa := fun_mk (st := sParts) lpa cpa kpa
  have Bpa : Fb K mg "_law_parts" sParts ["_law_d", "_law_most", "_law_long"] fpa _ := ⟨Fpa, PySem.W.mg_of X G apa, Fpa.binds (ps := ["_law_d", "_law_most", "_law_long"]) fun _ _ _ _ _ _ us hl => match us, hl with | [_, _, _], _ => rfl⟩
  have Fma := fun_mk (st := sMade) lma cma kma
  have Bma : Fb K mg "_law_made" sMade ["_law_parts_here"] fma _ := ⟨Fma, PySem.W.mg_of X G ama, Fma.binds (ps := ["_law_parts_here"]) fun _ _ _ _ _ _ us hl => match us, hl with | [_], _ => rfl⟩
  have Fca := fun_mk (st := sCars) lca cca kca
  have Bca : Fb K mg "_law_cars" sCars ["_law_d", "_law_most", "_law_span", "_law_paces"] fca _ := ⟨Fca, PySem.W.mg_of X G aca, Fca.binds (ps := ["_law_d", "_law_most", "_law_span", "_law_paces"]) fun _ _ _ _ _ _ us hl => match us, hl with | [_, _, _, _], _ => rfl⟩
  have Fse := fun_mk (st := sSection) lse cse kse
  have Bse : Fb K mg "_law_section" sSection ["_law_kind", "_law_length", "_law_entries"] fse _ := ⟨Fse, PySem.W.mg_of X G ase, Fse.binds (ps := ["_law_kind", "_law_length", "_law_entries"]) fun _ _ _ _ _ _ us hl => match us, hl with | [_, _, _], _ => rfl⟩
  have Fdr := fun_mk (st := sDriven) ldr cdr kdr
  have Bdr : Fb K mg "_law_driven" sDriven ["_law_parts_here", "_law_cars_here"] fdr _ := ⟨Fdr, PySem.W.mg_of X G adr, Fdr.binds (ps := ["_law_parts_here", "_law_cars_here"]) fun _ _ _ _ _ _ us hl => match us, hl with | [_, _], _ => rfl⟩
  have Fre := fun_mk (st := sRest) lre cre kre
  have Bre : Fb K mg "_law_rest" sRest ["_law_cars_here", "_law_name"] fre _ := ⟨Fre, PySem.W.mg_of X G are, Fre.binds (ps := ["_law_cars_here", "_law_name"]) fun _ _ _ _ _ _ us hl => match us, hl with | [_, _], _ => rfl⟩
  have Flc := fun_mk (st := sChain) llc clc klc
  have Blc : Fb K mg "_law_chain" sChain ["_law_parts_here", "_law_cars_here", "_law_name", "_law_goal"] flc _ := ⟨Flc, PySem.W.mg_of X G alc, Flc.binds (ps := ["_law_parts_here", "_law_cars_here", "_law_name", "_law_goal"]) fun _ _ _ _ _ _ us hl => match us, hl with | [_, _, _, _], _ => rfl⟩
  have Flo := fun_mk (st := sLongChain) llo clo klo
  have Blo : Fb K mg "_law_long_chain" sLongChain ["_law_d"] flo _ := ⟨Flo, PySem.W.mg_of X G alo, Flo.binds (ps := ["_law_d"]) fun _ _ _ _ _ _ us hl => match us, hl with | [_], _ => rfl⟩
  have Fla : FunC K "law" "law" sLaw _ _ ccla := ⟨⟨_, _, _, _, _, _, _, _, rfl, lla, cla⟩, kla⟩
  have FDi := fun_mk (st := sDInit) lDi cDi kDi
  have bDi := FDi.binds (ps := ["self", "road", "cars"]) fun _ _ _ _ _ _ us hl => match us, hl with | [_, _, _], _ => rfl
  have FDc := fun_mk (st := sDCheckCar) lDc cDc kDc
  have bDc := FDc.binds (ps := ["self", "name"]) fun _ _ _ _ _ _ us hl => match us, hl with | [_, _], _ => rfl
  have FDp := fun_mk (st := sDCheckPlace) lDp cDp kDp
  have bDp := FDp.binds (ps := ["self", "place"]) fun _ _ _ _ _ _ us hl => match us, hl with | [_, _], _ => rfl
  have FDg := fun_mk (st := sDGet) lDg cDg kDg
  have bDg := FDg.binds (ps := ["self", "at"]) fun _ _ _ _ _ _ us hl => match us, hl with | [_, _], _ => rfl
  have FDa : FunD K "__call__" "Drive.__call__" (defArgs sDCall) (defBody sDCall) (defScope sDCall) [.non] [] fDa _ := ⟨⟨_, _, _, _, _, _, _, _, _, _, rfl, lDa, cDa, .inr ⟨by simp, Td, _, [Value.none], nT, rfl, lT, rfl, .cons rfl .nil⟩, .inl rfl⟩, kDa⟩
  obtain ⟨ds0, v0, bDa0⟩ := FDa.binds1 (ps := ["self", "name", "place"]) 3 1 (by simp) rfl (fun T kV doc pm an cdv ct us its hl hi => match us, hl, its, hi with | [_, _, _], _, [_], _ => ⟨_, rfl, rfl⟩)
  have e0 : ds0 = [] := by cases v0; rfl
  subst e0
  obtain ⟨dsDa, vDa, bDa1⟩ := FDa.binds1 (ps := ["self", "name", "place"]) 2 0 (by simp) rfl (fun T kV doc pm an cdv ct us its hl hi => match us, hl, its, hi with | [_, _], _, [_], _ => ⟨_, rfl, rfl⟩)
  have FDh := fun_mk (st := sDHas) lDh cDh kDh
  have bDh := FDh.binds (ps := ["self", "x"]) fun _ _ _ _ _ _ us hl => match us, hl with | [_, _], _ => rfl
  have FDt := fun_mk (st := sDCheckSection) lDt cDt kDt
  have bDt := FDt.binds (ps := ["self", "section"]) fun _ _ _ _ _ _ us hl => match us, hl with | [_, _], _ => rfl
  have FDe := fun_mk (st := sDLeader) lDe cDe kDe
  have bDe := FDe.binds (ps := ["self", "name", "section"]) fun _ _ _ _ _ _ us hl => match us, hl with | [_, _, _], _ => rfl
  have FRi := fun_mk (st := sRInit) lRi cRi kRi
  have FRa := fun_mk (st := sRAdd) lRa cRa kRa
  have bRa := FRa.binds (ps := ["self", "other"]) fun _ _ _ _ _ _ us hl => match us, hl with | [_, _], _ => rfl
  have FRs := fun_mk (st := sRSections) lRs cRs kRs
  have bRs := FRs.binds (ps := ["self"]) fun _ _ _ _ _ _ us hl => match us, hl with | [_], _ => rfl
  have MDi : Fm K C "__init__" "Drive.__init__" sDInit ["self", "road", "cars"] fDi _ := ⟨FDi, ⟨aDi, iDi, kDi⟩, bDi⟩
  have MDc : Fm K C "_check_car" "Drive._check_car" sDCheckCar ["self", "name"] fDc _ := ⟨FDc, ⟨aDc, iDc, kDc⟩, bDc⟩
  have MDp : Fm K C "_check_place" "Drive._check_place" sDCheckPlace ["self", "place"] fDp _ := ⟨FDp, ⟨aDp, iDp, kDp⟩, bDp⟩
  have MDt : Fm K C "_check_section" "Drive._check_section" sDCheckSection ["self", "section"] fDt _ := ⟨FDt, ⟨aDt, iDt, kDt⟩, bDt⟩
  have MDe : Fm K C "leader" "Drive.leader" sDLeader ["self", "name", "section"] fDe _ := ⟨FDe, ⟨aDe, iDe, kDe⟩, bDe⟩
  let T : List (Addr × Str) := [(Pio, qInOrder), (Pla, qLaw)]
  have mio : (Pio, qInOrder) ∈ T := by simp [T]
  have mla : (Pla, qLaw) ∈ T := by simp [T]
  have uio : ∀ p ∈ T, p.1 = Pio → p.2 = qInOrder := fun p hp e => by
    rcases List.mem_cons.mp hp with z | hp
    · rw [z]
    · rw [List.mem_singleton.mp hp] at e
      exact absurd e.symm neP01
  have ula : ∀ p ∈ T, p.1 = Pla → p.2 = qLaw := fun p hp e => by
    rcases List.mem_cons.mp hp with z | hp
    · rw [z] at e
      exact absurd e neP01
    · rw [List.mem_singleton.mp hp]
  have PORs : PropOf K CR "sections" pRs fRs := ⟨aRs, gRs, tRs, _, rRs⟩
  have MI : Mk K C fDi := ⟨mkC, aDi, iDi, kcC⟩
  have MR : Mk K CR fRi := ⟨mkR, aRi, iRi, kcR⟩
  have Cio : PySem.W.CodeHd h ccio Pio := PySem.W.codeHd_of_K X hio
  have Cla : PySem.W.CodeHd h ccla Pla := PySem.W.codeHd_of_K X hla
  refine ⟨PySem.W.fnOf "law" "law" (defArgs sLaw) (defBody sLaw) (defScope sLaw) .none kVla dcla pmla anla (.ref ccla) ctla, [(ccio, Pio), (ccla, Pla)], spLaw K T, fun p hp => hT p.2 ?_, fun p hp => ?_, fun p hp => ?_, fun s v => .of_eq rfl, fun H a ns _ _ hH hS => ⟨a, ns, rfl, hS, fun p hp => ?_, fun _ => rfl⟩, fun base hK hNs hTB => ?_⟩
  · rcases List.mem_cons.mp hp with z | hp
    · rw [z]; simp
    · rw [List.mem_singleton.mp hp]; simp
  · rcases List.mem_cons.mp hp with z | hp
    · rw [z]; exact nio
    · rw [List.mem_singleton.mp hp]; exact nla
  · rcases List.mem_cons.mp hp with z | hp
    · rw [z]; exact Cio
    · rw [List.mem_singleton.mp hp]; exact Cla
  · rcases List.mem_cons.mp hp with z | hp
    · rw [z]; exact tabS0 (hH (ccio, Pio) (by simp))
    · rw [List.mem_singleton.mp hp]; exact tabS0 (hH (ccla, Pla) (by simp))
  have TBio : TabB base mg ccio Pio := hTB (ccio, Pio) (by simp)
  have TBla : TabB base mg ccla Pla := hTB (ccla, Pla) (by simp)
  have Gin := ok_isNumber (P := l.prog) (w := w) (base := base) Fin M
  have Gnm := ok_isName (P := l.prog) (w := w) (base := base) Fnm M
  have Gic := ok_isCar (P := l.prog) (w := w) (base := base) Bic M Bnm Bin Gnm Gin
  have Gcc := ok_checkCars (P := l.prog) (w := w) (base := base) Bcc M Bic Gic
  have Gio := ok_inOrder (P := l.prog) (w := w) (base := base) Bio M TBio mio uio
  have Gfo := ok_follow (P := l.prog) (w := w) (base := base) Bfo
  have Gis := ok_isSection (P := l.prog) (w := w) (base := base) Bis M Bin Gin
  have Guo := ok_unitsOf (P := l.prog) (w := w) (base := base) Buo RR
  have GRi := ok_rInit (P := l.prog) (w := w) (base := base) FRi M RR Bis Gis Buo Guo
  have GRs := ok_rSections (P := l.prog) (w := w) (base := base) FRs RR
  have qkit : PySem.W.kitOne K (.ref CR) (.ref CR) = some true := if_pos (by first | exact BEq.rfl | simp | rfl)
  have GRa := ok_rAdd (P := l.prog) (w := w) (base := base) FRa M RR ⟨qha, qhn, qht, qhm, qkit⟩ MR GRi
  have ea : (fun vs H Q E => spRAdd CR (vs ++ []) H Q E) = spRAdd CR := by funext vs H Q E; rw [List.append_nil]
  have GRa2 : FnR l.prog w K mg base CX0 5 fRa (spRAdd CR) := ea ▸ GRa.raw bRa .nil
  have Gdv := ok_driveAll (P := l.prog) (w := w) (base := base) (Pt:=Pio) Fdv M Bio Bfo Gio Gfo
  have GDi := ok_dInit (P := l.prog) (w := w) (base := base) MDi M R RR Bcc Bdv PORs bRs Gcc Gdv GRs
  have GDh := ok_has (P := l.prog) (w := w) (base := base) FDh M R
  have GDc := ok_checkCar (P := l.prog) (w := w) (base := base) MDc aDh iDh bDh GDh
  have GDp := ok_checkPlace (P := l.prog) (w := w) (base := base) MDp M R Bin Gin
  have GDg := ok_get (P := l.prog) (w := w) (base := base) FDg M R MDc GDc
  have GDt := ok_checkSection (P := l.prog) (w := w) (base := base) MDt M R Bin Gin
  have GDe := ok_leader (P := l.prog) (w := w) (base := base) MDe M R MDc GDc MDt GDt
  have GDa := ok_callD (P := l.prog) (w := w) (base := base) FDa M R MDc GDc MDp GDp
  have Gkn := ok_known (P := l.prog) (w := w) (base := base) (mg:=mg) Fkn
  have Gwi := ok_without (P := l.prog) (w := w) (base := base) Fwi M
  have I : Inf l.prog w K mg base CR C T := ⟨M, R, ⟨_, _, MI, bDi, GDi⟩, ⟨_, _, aDh, iDh, bDh, GDh⟩, ⟨_, _, aDg, iDg, jDg, bDg, GDg⟩, ⟨_, _, _, ⟨aDa, iDa, jDa⟩, bDa1, vDa, GDa⟩, ⟨_, _, MDe, GDe⟩, ⟨_, _, Bcc, Gcc⟩, ⟨_, _, Bkn, Gkn⟩⟩
  have Gch := ok_changed (P := l.prog) (w := w) (base := base) Fch I
  have Gsc := ok_short (P := l.prog) (w := w) (base := base) Fsc M
  have Gcb := ok_chain (P := l.prog) (w := w) (base := base) Fcb I RR PORs bRs GRs ⟨_, _, Bwi, Gwi⟩ ⟨_, _, Bch, Gch⟩ ⟨_, _, Bsc, Gsc⟩
  have OC : OexC K CU := ⟨⟨_, _, _, _, _, _, _, _, _, _, _, _, _, _, _, xU, rfl⟩, saU, r3sb, d3t, kU⟩
  have FUi := fun_mk (st := sUnknownCarInit) lUi cUi kUi
  have bUi := FUi.binds (ps := ["self", "name"]) fun _ _ _ _ _ _ us hl => match us, hl with | [_, _], _ => rfl
  have GUi := ok_uInit (P := l.prog) (w := w) (base := base) (mg := mg) FUi OC r3nm
  have EU : ErrO l.prog w K mg base "UnknownCar" CU := ⟨OC, PySem.W.mg_of X G e3, ⟨_, _, _, aUi, tUi, bUi, GUi⟩⟩
  have GknX := ok_knownX (P := l.prog) (w := w) (base := base) Fkn EU
  have GcbU := ok_chainU (P := l.prog) (w := w) (base := base) (CR := CR) (C := C) (T := T) Fcb ⟨_, _, Bcc, Gcc⟩ ⟨_, _, Bkn, GknX⟩
  have GcbX := L2.FnOk.orX Gcb GcbU
  have Gne := ok_next (P := l.prog) (w := w) (base := base) Fne M
  have Gdi := ok_dice (P := l.prog) (w := w) (base := base) Fdi M
  have Gpi := ok_pick (P := l.prog) (w := w) (base := base) Fpi M Bne Gne
  have Gpa := ok_parts (P := l.prog) (w := w) (base := base) Fpa M Bne Gne Bpi Gpi
  have Gca := ok_cars (P := l.prog) (w := w) (base := base) Fca M Bne Gne
  have Gma := ok_made (P := l.prog) (w := w) (base := base) (dA := PySem.W.fnOf "law" "law" (defArgs sLaw) (defBody sLaw) (defScope sLaw) .none kVla dcla pmla anla (.ref ccla) ctla) (ds := []) (dvs := []) Fma M RR MR GRi qsf aRa iRa GRa2
  have Gl0 := ok_like0 (P := l.prog) (w := w) (base := base) Fli M
  have Gl1 := ok_likeS (P := l.prog) (w := w) (base := base) Bli M Gl0
  have GlX : FnOk l.prog w K mg base CX0 2 fli _ ["_law_found", "_law_due"] (spL1 K) := L2.FnOk.orX (Gl0.mono (by decide)) Gl1
  have GlS := ok_likeS (P := l.prog) (w := w) (base := base) Bli M GlX
  have Gse := ok_lsec (P := l.prog) (w := w) (base := base) Fse M (PySem.W.mg_none_of X G z_max)
  have Gdr := ok_drivenW (P := l.prog) (w := w) (base := base) Fdr M Bse Gse
  have Gre := ok_rest (P := l.prog) (w := w) (base := base) (mg:=mg) Fre
  have Glc := ok_lchain (P := l.prog) (w := w) (base := base) Flc M ⟨_, _, Bdr, Gdr⟩ ⟨_, _, Bre, Gre⟩
  have Glo := ok_long (P := l.prog) (w := w) (base := base) (T := T) Flo M RR MR GRi ⟨_, _, Bne, Gne⟩ ⟨_, _, Bcb, Gcb⟩ ⟨_, _, Bli, GlS⟩
  have WT : Teller K mg "_law_told" "_law_work" fto nTold (defBody sTold) (defScope sTold) cdto := ⟨PySem.W.mg_of X G ato, kto, ⟨_, _, _, _, _, _, _, _, _, _, lto, Bto.bd⟩, cto, scTold, rfl, .inl rfl⟩
  exact ok_law (C := C) Fla TBla mla ula ⟨M, ⟨PySem.W.mg_of X G eE, PySem.W.mg_of X G e0, PySem.W.mg_of X G e1, PySem.W.mg_of X G e2, PySem.W.mg_of X G e3, PySem.W.mg_of X G e4, PySem.W.mg_none_of X G z_ValueError⟩, ⟨⟨r3cl, r3ga, r3gg, r3sb, r3hd, r3ct, qhn, qht, r3mr, r3ix, r3nm⟩, PySem.W.exm_ref dEs dEh dEt r3xe, kit_refE r3k3 d0c d0t r3k0, kit_refE r3k3 d1c d1t r3k1, kit_refE r3k3 d2c d2t r3k2, kit_refE r3k3 d3c d3t r3k3, kit_refE r3k3 d4c d4t r3k4, kit_tyE (by decide +kernel) r3kv⟩, ⟨_, _, Bdi, Gdi⟩, ⟨_, _, Bne, Gne⟩, ⟨_, _, Bpa, Gpa⟩, ⟨_, _, Bca, Gca⟩, ⟨_, _, Bma, Gma⟩, ⟨_, _, Bli, GlX, GlS⟩, ⟨_, _, Blc, Glc⟩, ⟨_, _, Blo, Glo⟩, ⟨_, _, Bcb, GcbX⟩, ⟨_, _, WT⟩⟩
end Sl

open PySem PySem.W PyProof.Rows
set_option maxRecDepth 100000 in
set_option maxHeartbeats 0 in
theorem PySem.Challenge.cw_slowleaders_k06_chains_of_changes_holds : PySem.Challenge.rw_slowleaders_k06_chains_of_changes.Holds := by
  w_on; o_law; k_head; (case hw => w_witness2)
  k_fill
  refine LamX.walk_ofTs (l := PySem.Challenge.rw_slowleaders_k06_chains_of_changes) (n := 63) (k := 11) (x := "_law_script") (CX := fun _ => L2.CX0) rfl (by decide) rfl ⟨rfl, by decide, by decide⟩ (fun w h Y => PySem.W.km_in_of Y) ?F (fun _ _ _ _ _ z => z)
  case F =>
    intro w mg fa h Y KX G hmg
    have hT8 := km_tabs_of Y
    refine' Sl.all_mk (Pio := 155) (Pla := 503) KX G hmg ?aC ?aR ?ain ?lin ?cin ?kin ?anm ?lnm ?cnm ?knm ?aic ?lic ?cic ?kic ?acc ?lcc ?ccc ?kcc ?aio ?lio ?cio ?kio ?hio ?nio ?afo ?lfo ?cfo ?kfo ?adv ?ldv ?cdv ?kdv ?ais ?lis ?cis ?kis ?auo ?luo ?cuo ?kuo ?akn ?lkn ?ckn ?kkn ?awi ?lwi ?cwi ?kwi ?ach ?lch ?cch ?kch ?asc ?lsc ?csc ?ksc ?acb ?lcb ?ccb ?kcb ?adi ?ldi ?cdi ?kdi ?ane ?lne ?cne ?kne ?ali ?lli ?cli ?kli ?api ?lpi ?cpi ?kpi ?ato ?lto ?cto ?kto ?apa ?lpa ?cpa ?kpa ?ama ?lma ?cma ?kma ?aca ?lca ?cca ?kca ?ase ?lse ?cse ?kse ?adr ?ldr ?cdr ?kdr ?are ?lre ?cre ?kre ?alc ?llc ?clc ?klc ?alo ?llo ?clo ?klo ?ala ?lla ?cla ?kla ?hla ?nla ?aDi ?iDi ?lDi ?cDi ?kDi ?aDc ?iDc ?lDc ?cDc ?kDc ?aDp ?iDp ?lDp ?cDp ?kDp ?aDg ?iDg ?lDg ?cDg ?kDg ?aDa ?iDa ?lDa ?cDa ?kDa ?lT ?aDh ?iDh ?lDh ?cDh ?kDh ?aDt ?iDt ?lDt ?cDt ?kDt ?aDe ?iDe ?lDe ?cDe ?kDe ?aRi ?iRi ?lRi ?cRi ?kRi ?aRa ?iRa ?lRa ?cRa ?kRa ?aRs ?gRs ?tRs ?rRs ?lRs ?cRs ?kRs ?jDg ?jDa ?pgC ?hdC ?poC ?saC ?mkC ?kcC ?pgR ?hdR ?poR ?saR ?mkR ?kcR ?nC_sections ?nC_paces ?nC_ticks ?nC_orders ?nC_leaders ?nR_sections ?nR_units ?z_isinstance ?z_int ?z_bool ?z_str ?z_tuple ?z_len ?z_all ?z_enumerate ?z_sorted ?z_list ?z_range ?z_sum ?z_max ?z_ValueError ?v0 ?v1 ?v2 ?v3 ?v4 ?v5 ?aL ?aK ?dlN ?dlW ?dkN ?dkW ?kM ?eE ?e0 ?e1 ?e2 ?e3 ?e4 ?dEs ?dEh ?dEt ?d0c ?d0t ?d1c ?d1t ?d2c ?d2t ?d3c ?d3t ?d4c ?d4t ?r3cl ?r3ga ?r3gg ?r3sb ?r3hd ?r3ct ?r3mr ?r3ix ?r3nm ?r3xe ?r3kv ?r3k0 ?r3k1 ?r3k2 ?r3k3 ?r3k4 ?xU ?saU ?kU ?aUi ?tUi ?lUi ?cUi ?kUi ?qhn ?qht ?qha ?qhm ?qsf ?neP01 ?hT
    (case aC => first | k_is | k_exc | kx_is)
    (case aR => first | k_is | k_exc | kx_is)
    (case ain => first | k_is | k_exc | kx_is)
    (case lin => first | k_is | k_exc | kx_is)
    (case cin => first | k_is | k_exc | kx_is)
    (case kin => first | k_is | k_exc | kx_is)
    (case anm => first | k_is | k_exc | kx_is)
    (case lnm => first | k_is | k_exc | kx_is)
    (case cnm => first | k_is | k_exc | kx_is)
    (case knm => first | k_is | k_exc | kx_is)
    (case aic => first | k_is | k_exc | kx_is)
    (case lic => first | k_is | k_exc | kx_is)
    (case cic => first | k_is | k_exc | kx_is)
    (case kic => first | k_is | k_exc | kx_is)
    (case acc => first | k_is | k_exc | kx_is)
    (case lcc => first | k_is | k_exc | kx_is)
    (case ccc => first | k_is | k_exc | kx_is)
    (case kcc => first | k_is | k_exc | kx_is)
    (case aio => first | k_is | k_exc | kx_is)
    (case lio => first | k_is | k_exc | kx_is)
    (case cio => first | k_is | k_exc | kx_is)
    (case kio => first | k_is | k_exc | kx_is)
    (case hio => first | kernel_rfl | k_is)
    (case nio => first | kernel_rfl | k_is)
    (case afo => first | k_is | k_exc | kx_is)
    (case lfo => first | k_is | k_exc | kx_is)
    (case cfo => first | k_is | k_exc | kx_is)
    (case kfo => first | k_is | k_exc | kx_is)
    (case adv => first | k_is | k_exc | kx_is)
    (case ldv => first | k_is | k_exc | kx_is)
    (case cdv => first | k_is | k_exc | kx_is)
    (case kdv => first | k_is | k_exc | kx_is)
    (case ais => first | k_is | k_exc | kx_is)
    (case lis => first | k_is | k_exc | kx_is)
    (case cis => first | k_is | k_exc | kx_is)
    (case kis => first | k_is | k_exc | kx_is)
    (case auo => first | k_is | k_exc | kx_is)
    (case luo => first | k_is | k_exc | kx_is)
    (case cuo => first | k_is | k_exc | kx_is)
    (case kuo => first | k_is | k_exc | kx_is)
    (case akn => first | k_is | k_exc | kx_is)
    (case lkn => first | k_is | k_exc | kx_is)
    (case ckn => first | k_is | k_exc | kx_is)
    (case kkn => first | k_is | k_exc | kx_is)
    (case awi => first | k_is | k_exc | kx_is)
    (case lwi => first | k_is | k_exc | kx_is)
    (case cwi => first | k_is | k_exc | kx_is)
    (case kwi => first | k_is | k_exc | kx_is)
    (case ach => first | k_is | k_exc | kx_is)
    (case lch => first | k_is | k_exc | kx_is)
    (case cch => first | k_is | k_exc | kx_is)
    (case kch => first | k_is | k_exc | kx_is)
    (case asc => first | k_is | k_exc | kx_is)
    (case lsc => first | k_is | k_exc | kx_is)
    (case csc => first | k_is | k_exc | kx_is)
    (case ksc => first | k_is | k_exc | kx_is)
    (case acb => first | k_is | k_exc | kx_is)
    (case lcb => first | k_is | k_exc | kx_is)
    (case ccb => first | k_is | k_exc | kx_is)
    (case kcb => first | k_is | k_exc | kx_is)
    (case adi => first | k_is | k_exc | kx_is)
    (case ldi => first | k_is | k_exc | kx_is)
    (case cdi => first | k_is | k_exc | kx_is)
    (case kdi => first | k_is | k_exc | kx_is)
    (case ane => first | k_is | k_exc | kx_is)
    (case lne => first | k_is | k_exc | kx_is)
    (case cne => first | k_is | k_exc | kx_is)
    (case kne => first | k_is | k_exc | kx_is)
    (case ali => first | k_is | k_exc | kx_is)
    (case lli => first | k_is | k_exc | kx_is)
    (case cli => first | k_is | k_exc | kx_is)
    (case kli => first | k_is | k_exc | kx_is)
    (case api => first | k_is | k_exc | kx_is)
    (case lpi => first | k_is | k_exc | kx_is)
    (case cpi => first | k_is | k_exc | kx_is)
    (case kpi => first | k_is | k_exc | kx_is)
    (case ato => first | k_is | k_exc | kx_is)
    (case lto => first | k_is | k_exc | kx_is)
    (case cto => first | k_is | k_exc | kx_is)
    (case kto => first | k_is | k_exc | kx_is)
    (case apa => first | k_is | k_exc | kx_is)
    (case lpa => first | k_is | k_exc | kx_is)
    (case cpa => first | k_is | k_exc | kx_is)
    (case kpa => first | k_is | k_exc | kx_is)
    (case ama => first | k_is | k_exc | kx_is)
    (case lma => first | k_is | k_exc | kx_is)
    (case cma => first | k_is | k_exc | kx_is)
    (case kma => first | k_is | k_exc | kx_is)
    (case aca => first | k_is | k_exc | kx_is)
    (case lca => first | k_is | k_exc | kx_is)
    (case cca => first | k_is | k_exc | kx_is)
    (case kca => first | k_is | k_exc | kx_is)
    (case ase => first | k_is | k_exc | kx_is)
    (case lse => first | k_is | k_exc | kx_is)
    (case cse => first | k_is | k_exc | kx_is)
    (case kse => first | k_is | k_exc | kx_is)
    (case adr => first | k_is | k_exc | kx_is)
    (case ldr => first | k_is | k_exc | kx_is)
    (case cdr => first | k_is | k_exc | kx_is)
    (case kdr => first | k_is | k_exc | kx_is)
    (case are => first | k_is | k_exc | kx_is)
    (case lre => first | k_is | k_exc | kx_is)
    (case cre => first | k_is | k_exc | kx_is)
    (case kre => first | k_is | k_exc | kx_is)
    (case alc => first | k_is | k_exc | kx_is)
    (case llc => first | k_is | k_exc | kx_is)
    (case clc => first | k_is | k_exc | kx_is)
    (case klc => first | k_is | k_exc | kx_is)
    (case alo => first | k_is | k_exc | kx_is)
    (case llo => first | k_is | k_exc | kx_is)
    (case clo => first | k_is | k_exc | kx_is)
    (case klo => first | k_is | k_exc | kx_is)
    (case ala => first | k_is | k_exc | kx_is)
    (case lla => first | k_is | k_exc | kx_is)
    (case cla => first | k_is | k_exc | kx_is)
    (case kla => first | k_is | k_exc | kx_is)
    (case hla => first | kernel_rfl | k_is)
    (case nla => first | kernel_rfl | k_is)
    (case aDi => first | k_is | k_exc | kx_is)
    (case iDi => first | k_is | k_exc | kx_is)
    (case lDi => first | k_is | k_exc | kx_is)
    (case cDi => first | k_is | k_exc | kx_is)
    (case kDi => first | k_is | k_exc | kx_is)
    (case aDc => first | k_is | k_exc | kx_is)
    (case iDc => first | k_is | k_exc | kx_is)
    (case lDc => first | k_is | k_exc | kx_is)
    (case cDc => first | k_is | k_exc | kx_is)
    (case kDc => first | k_is | k_exc | kx_is)
    (case aDp => first | k_is | k_exc | kx_is)
    (case iDp => first | k_is | k_exc | kx_is)
    (case lDp => first | k_is | k_exc | kx_is)
    (case cDp => first | k_is | k_exc | kx_is)
    (case kDp => first | k_is | k_exc | kx_is)
    (case aDg => first | k_is | k_exc | kx_is)
    (case iDg => first | k_is | k_exc | kx_is)
    (case lDg => first | k_is | k_exc | kx_is)
    (case cDg => first | k_is | k_exc | kx_is)
    (case kDg => first | k_is | k_exc | kx_is)
    (case aDa => first | k_is | k_exc | kx_is)
    (case iDa => first | k_is | k_exc | kx_is)
    (case lDa => first | k_is | k_exc | kx_is)
    (case cDa => first | k_is | k_exc | kx_is)
    (case kDa => first | k_is | k_exc | kx_is)
    (case lT => first | k_is | k_exc | kx_is)
    (case aDh => first | k_is | k_exc | kx_is)
    (case iDh => first | k_is | k_exc | kx_is)
    (case lDh => first | k_is | k_exc | kx_is)
    (case cDh => first | k_is | k_exc | kx_is)
    (case kDh => first | k_is | k_exc | kx_is)
    (case aDt => first | k_is | k_exc | kx_is)
    (case iDt => first | k_is | k_exc | kx_is)
    (case lDt => first | k_is | k_exc | kx_is)
    (case cDt => first | k_is | k_exc | kx_is)
    (case kDt => first | k_is | k_exc | kx_is)
    (case aDe => first | k_is | k_exc | kx_is)
    (case iDe => first | k_is | k_exc | kx_is)
    (case lDe => first | k_is | k_exc | kx_is)
    (case cDe => first | k_is | k_exc | kx_is)
    (case kDe => first | k_is | k_exc | kx_is)
    (case aRi => first | k_is | k_exc | kx_is)
    (case iRi => first | k_is | k_exc | kx_is)
    (case lRi => first | k_is | k_exc | kx_is)
    (case cRi => first | k_is | k_exc | kx_is)
    (case kRi => first | k_is | k_exc | kx_is)
    (case aRa => first | k_is | k_exc | kx_is)
    (case iRa => first | k_is | k_exc | kx_is)
    (case lRa => first | k_is | k_exc | kx_is)
    (case cRa => first | k_is | k_exc | kx_is)
    (case kRa => first | k_is | k_exc | kx_is)
    (case aRs => first | k_is | k_exc | kx_is)
    (case gRs => first | k_is | k_exc | kx_is)
    (case tRs => first | k_is | k_exc | kx_is)
    (case rRs => first | k_is | k_exc | kx_is)
    (case lRs => first | k_is | k_exc | kx_is)
    (case cRs => first | k_is | k_exc | kx_is)
    (case kRs => first | k_is | k_exc | kx_is)
    (case jDg => first | k_is | k_exc | kx_is)
    (case jDa => first | k_is | k_exc | kx_is)
    (case pgC => first | k_is | k_exc | kx_is)
    (case hdC => first | k_is | k_exc | kx_is)
    (case poC => first | k_is | k_exc | kx_is)
    (case saC => first | k_is | k_exc | kx_is)
    (case mkC => first | k_is | k_exc | kx_is)
    (case kcC => first | k_is | k_exc | kx_is)
    (case pgR => first | k_is | k_exc | kx_is)
    (case hdR => first | k_is | k_exc | kx_is)
    (case poR => first | k_is | k_exc | kx_is)
    (case saR => first | k_is | k_exc | kx_is)
    (case mkR => first | k_is | k_exc | kx_is)
    (case kcR => first | k_is | k_exc | kx_is)
    (case nC_sections => first | k_is | k_exc | kx_is)
    (case nC_paces => first | k_is | k_exc | kx_is)
    (case nC_ticks => first | k_is | k_exc | kx_is)
    (case nC_orders => first | k_is | k_exc | kx_is)
    (case nC_leaders => first | k_is | k_exc | kx_is)
    (case nR_sections => first | k_is | k_exc | kx_is)
    (case nR_units => first | k_is | k_exc | kx_is)
    (case z_isinstance => first | k_is | k_exc | kx_is)
    (case z_int => first | k_is | k_exc | kx_is)
    (case z_bool => first | k_is | k_exc | kx_is)
    (case z_str => first | k_is | k_exc | kx_is)
    (case z_tuple => first | k_is | k_exc | kx_is)
    (case z_len => first | k_is | k_exc | kx_is)
    (case z_all => first | k_is | k_exc | kx_is)
    (case z_enumerate => first | k_is | k_exc | kx_is)
    (case z_sorted => first | k_is | k_exc | kx_is)
    (case z_list => first | k_is | k_exc | kx_is)
    (case z_range => first | k_is | k_exc | kx_is)
    (case z_sum => first | k_is | k_exc | kx_is)
    (case z_max => first | k_is | k_exc | kx_is)
    (case z_ValueError => first | k_is | k_exc | kx_is)
    (case v0 => first | k_is | k_exc | kx_is)
    (case v1 => first | k_is | k_exc | kx_is)
    (case v2 => first | k_is | k_exc | kx_is)
    (case v3 => first | k_is | k_exc | kx_is)
    (case v4 => first | k_is | k_exc | kx_is)
    (case v5 => first | k_is | k_exc | kx_is)
    (case aL => first | k_is | k_exc | kx_is)
    (case aK => first | k_is | k_exc | kx_is)
    (case dlN => exact ⟨_, _, _, by k_is, by (first | exact ⟨⟨_, _, rfl, rfl⟩, ⟨_, _, rfl, rfl⟩, trivial⟩ | (constructor; exact ⟨_, _, rfl, rfl⟩; constructor; exact ⟨_, _, rfl, rfl⟩; trivial)), by k_is, ⟨_, rfl⟩⟩)
    (case dlW => exact ⟨_, _, _, by k_is, by (first | exact ⟨⟨_, _, rfl, rfl⟩, ⟨_, _, rfl, rfl⟩, trivial⟩ | (constructor; exact ⟨_, _, rfl, rfl⟩; constructor; exact ⟨_, _, rfl, rfl⟩; trivial)), by k_is, ⟨_, rfl⟩⟩)
    (case dkN => exact ⟨_, _, _, by k_is, by (first | exact ⟨⟨_, _, rfl, rfl⟩, ⟨_, _, rfl, rfl⟩, trivial⟩ | (constructor; exact ⟨_, _, rfl, rfl⟩; constructor; exact ⟨_, _, rfl, rfl⟩; trivial)), by k_is, ⟨_, rfl⟩⟩)
    (case dkW => exact ⟨_, _, _, by k_is, by (first | exact ⟨⟨_, _, rfl, rfl⟩, ⟨_, _, rfl, rfl⟩, trivial⟩ | (constructor; exact ⟨_, _, rfl, rfl⟩; constructor; exact ⟨_, _, rfl, rfl⟩; trivial)), by k_is, ⟨_, rfl⟩⟩)
    (case kM => decide)
    (case eE => first | k_is | k_exc | kx_is)
    (case e0 => first | k_is | k_exc | kx_is)
    (case e1 => first | k_is | k_exc | kx_is)
    (case e2 => first | k_is | k_exc | kx_is)
    (case e3 => first | k_is | k_exc | kx_is)
    (case e4 => first | k_is | k_exc | kx_is)
    (case dEs => first | k_is | k_exc | kx_is)
    (case dEh => first | k_is | k_exc | kx_is)
    (case dEt => first | k_is | k_exc | kx_is)
    (case d0c => first | k_is | k_exc | kx_is)
    (case d0t => first | k_is | k_exc | kx_is)
    (case d1c => first | k_is | k_exc | kx_is)
    (case d1t => first | k_is | k_exc | kx_is)
    (case d2c => first | k_is | k_exc | kx_is)
    (case d2t => first | k_is | k_exc | kx_is)
    (case d3c => first | k_is | k_exc | kx_is)
    (case d3t => first | k_is | k_exc | kx_is)
    (case d4c => first | k_is | k_exc | kx_is)
    (case d4t => first | k_is | k_exc | kx_is)
    (case r3cl => first | k_is | k_exc | kx_is)
    (case r3ga => first | k_is | k_exc | kx_is)
    (case r3gg => first | k_is | k_exc | kx_is)
    (case r3sb => first | k_is | k_exc | kx_is)
    (case r3hd => first | k_is | k_exc | kx_is)
    (case r3ct => first | k_is | k_exc | kx_is)
    (case r3mr => first | k_is | k_exc | kx_is)
    (case r3ix => first | k_is | k_exc | kx_is)
    (case r3nm => first | k_is | k_exc | kx_is)
    (case r3xe => first | k_is | k_exc | kx_is)
    (case r3kv => first | k_is | k_exc | kx_is)
    (case r3k0 => first | k_is | k_exc | kx_is)
    (case r3k1 => first | k_is | k_exc | kx_is)
    (case r3k2 => first | k_is | k_exc | kx_is)
    (case r3k3 => first | k_is | k_exc | kx_is)
    (case r3k4 => first | k_is | k_exc | kx_is)
    (case xU => first | k_is | k_exc | kx_is)
    (case saU => first | k_is | k_exc | kx_is)
    (case kU => first | k_is | k_exc | kx_is)
    (case aUi => first | k_is | k_exc | kx_is)
    (case tUi => first | k_is | k_exc | kx_is)
    (case lUi => first | k_is | k_exc | kx_is)
    (case cUi => first | k_is | k_exc | kx_is)
    (case kUi => first | k_is | k_exc | kx_is)
    (case qhn => first | k_is | k_exc | kx_is)
    (case qht => first | k_is | k_exc | kx_is)
    (case qha => first | k_is | k_exc | kx_is)
    (case qhm => first | k_is | k_exc | kx_is)
    (case qsf => first | k_is | k_exc | kx_is)
    (case neP01 => decide)
    (case hT => intro P hP; exact hT8 P (by rcases List.mem_cons.mp hP with z | hP; (rw [z]; k_mem); (rw [List.mem_singleton.mp hP]; k_mem)))
