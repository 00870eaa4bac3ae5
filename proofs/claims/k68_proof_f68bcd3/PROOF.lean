import PyProof.Rows.All
import Wide.All
import OpenK.AllK
import Wide.FinOn
import HandS.ForMost
import HandS.IsInst
import HandS.DictComp
import HandS.Walk
import HandS.Wide
import HandS.EndTab
import KE.KSortKeySt
import KE.KLam
import PyProof.TupleOfSeq
import HandS.SortKw
import HandS.Lambda
import HandS.Nested
import OpenK.KMeth
import OpenK.KOps
import HandS.Star
import HandS.SlotsOwn
import HandS.ClsMeth
import HandS.Property
import HandS.More
import KE.GoesMore
import KE.GoesEnum
import PyProof.EnumMake
import PyProof.StrOps2
import HandS.NoneIn
import HandS.Conv
import HandS.Defaults
import HandS.WordsDict
import PyProof.GenComp
import HandS.GenBody
import HandS.GenYield
import HandS.GenList
import HandS.ForDict
import HandS.Words
import HandS.MapSum
import HandS.Small
import PyProof.EqAt
import PyProof.EqKinds
import PyProof.TupleCall
import KE.KDflt
import HandS.Base
import HandS.Call
import HandS.List
import HandS.Comp
import HandS.Text
import HandS.Exc
import HandS.Codes
import HandS.TryOnly
import PyProof.CodeObj
import HandS.WordsExc
import HandS.SetBool
import HandS.Strs
import HandS.SetFor
import HandS.Zip
import HandS.TupAny
import HandS.Iter
import HandS.ExcIs
import HandS.ExcField
import HandS.ExcInit
import KE.KExcIs
import HandS.Style
import HandS.IterVal
import KE.KNestM
import PySem.Challenge.RW_slowleaders_k68_whole_hidden_paces_by_al
/-! A stable order by int keys: the one list that is ordered and keeps the rows of equal keys. -/
namespace OwnR
def ins {α : Type} (p : Int × α) : List (Int × α) → List (Int × α)
  | [] => [p]
  | q :: r => if p.1 ≤ q.1 then p :: q :: r else q :: ins p r
def isort {α : Type} : List (Int × α) → List (Int × α)
  | [] => []
  | p :: r => ins p (isort r)
section
variable {α β : Type}
theorem ins_perm (p : Int × α) : ∀ l : List (Int × α), (ins p l).Perm (p :: l)
  | [] => List.Perm.refl _
  | q :: r => by
    unfold ins
    split
    · exact List.Perm.refl _
    · exact ((ins_perm p r).cons q).trans (List.Perm.swap p q r)
theorem isort_perm : ∀ l : List (Int × α), (isort l).Perm l
  | [] => List.Perm.refl _
  | p :: r => (ins_perm p _).trans ((isort_perm r).cons p)
theorem ins_up (p : Int × α) : ∀ l : List (Int × α), l.Pairwise (fun a b => a.1 ≤ b.1) → (ins p l).Pairwise (fun a b => a.1 ≤ b.1)
  | [], _ => by simp [ins]
  | q :: r, h => by
    unfold ins
    have h1 := List.pairwise_cons.mp h
    split
    · rename_i hpq
      refine List.pairwise_cons.mpr ⟨fun b hb => ?_, h⟩
      rcases List.mem_cons.mp hb with rfl | hb
      · exact hpq
      · exact Int.le_trans hpq (h1.1 b hb)
    · rename_i hpq
      refine List.pairwise_cons.mpr ⟨fun b hb => ?_, ins_up p r h1.2⟩
      rcases List.mem_cons.mp ((ins_perm p r).mem_iff.mp hb) with rfl | hb
      · omega
      · exact h1.1 b hb
theorem isort_up : ∀ l : List (Int × α), (isort l).Pairwise (fun a b => a.1 ≤ b.1)
  | [] => List.Pairwise.nil
  | p :: r => ins_up p _ (isort_up r)
theorem ins_row (p : Int × α) (z : Int) : ∀ l : List (Int × α), (ins p l).filter (fun a => a.1 == z) = (p :: l).filter (fun a => a.1 == z)
  | [] => rfl
  | q :: r => by
    unfold ins
    split
    · rfl
    · rename_i hpq
      rw [List.filter_cons, ins_row p z r]
      by_cases h1 : p.1 = z
      · have h2 : (q.1 == z) = false := by simp; omega
        simp [List.filter_cons, h1, h2]
      · have h3 : (p.1 == z) = false := by simp [h1]
        simp [List.filter_cons, h3]
theorem isort_row (z : Int) : ∀ l : List (Int × α), (isort l).filter (fun a => a.1 == z) = l.filter (fun a => a.1 == z)
  | [] => rfl
  | p :: r => by
    unfold isort
    rw [ins_row, List.filter_cons, List.filter_cons, isort_row z r]
theorem eq_of_rows : ∀ l k : List (Int × α), l.Pairwise (fun a b => a.1 ≤ b.1) → k.Pairwise (fun a b => a.1 ≤ b.1) → (∀ z, l.filter (fun a => a.1 == z) = k.filter (fun a => a.1 == z)) → l = k
  | [], [], _, _, _ => rfl
  | [], b :: k, _, _, h => by
    have := h b.1
    simp at this
  | a :: l, [], _, _, h => by
    have := h a.1
    simp at this
  | a :: l, b :: k, hl, hk, h => by
    have l1 := List.pairwise_cons.mp hl
    have k1 := List.pairwise_cons.mp hk
    have hab : a.1 = b.1 := by
      rcases Int.lt_trichotomy a.1 b.1 with c | c | c
      · exfalso
        have e := h a.1
        rw [List.filter_cons, if_pos (by simp)] at e
        have m : a ∈ (b :: k).filter (fun x => x.1 == a.1) := by rw [← e]; exact List.mem_cons_self
        have m1 := List.mem_filter.mp m
        rcases List.mem_cons.mp m1.1 with e1 | e1
        · rw [e1] at c; omega
        · have := k1.1 a e1; omega
      · exact c
      · exfalso
        have e := h b.1
        have m : b ∈ (a :: l).filter (fun x => x.1 == b.1) := by
          rw [e, List.filter_cons, if_pos (by simp)]; exact List.mem_cons_self
        have m1 := List.mem_filter.mp m
        rcases List.mem_cons.mp m1.1 with e1 | e1
        · rw [e1] at c; omega
        · have := l1.1 b e1; omega
    have e := h a.1
    rw [List.filter_cons, if_pos (by simp), List.filter_cons, if_pos (by simp [hab])] at e
    have e0 : a = b := (List.cons.inj e).1
    subst e0
    refine congrArg _ (eq_of_rows l k l1.2 k1.2 fun z => ?_)
    have ez := h z
    by_cases c : a.1 = z
    · rw [List.filter_cons, if_pos (by simp [c]), List.filter_cons, if_pos (by simp [c])] at ez
      exact (List.cons.inj ez).2
    · rw [List.filter_cons, if_neg (by simp [c]), List.filter_cons, if_neg (by simp [c])] at ez
      exact ez
theorem isort_unique {l k : List (Int × α)} (h1 : k.Pairwise (fun a b => a.1 ≤ b.1)) (h2 : ∀ z, k.filter (fun a => a.1 == z) = l.filter (fun a => a.1 == z)) : k = isort l :=
  eq_of_rows k (isort l) h1 (isort_up l) fun z => (h2 z).trans (isort_row z l).symm
theorem ins_map (f : α → β) (p : Int × α) : ∀ l : List (Int × α), ins (p.1, f p.2) (l.map fun q => (q.1, f q.2)) = (ins p l).map fun q => (q.1, f q.2)
  | [] => rfl
  | q :: r => by
    simp only [List.map_cons, ins]
    split
    · rfl
    · rw [ins_map f p r, List.map_cons]
theorem isort_map (f : α → β) : ∀ l : List (Int × α), isort (l.map fun q => (q.1, f q.2)) = (isort l).map fun q => (q.1, f q.2)
  | [] => rfl
  | p :: r => by
    simp only [List.map_cons, isort]
    rw [isort_map f r, ins_map f p]
/-- the items in the order of their keys, stable -/
def sortBy (key : α → Int) (l : List α) : List α := (isort (l.map fun x => (key x, x))).map (·.2)
theorem sortBy_perm (key : α → Int) (l : List α) : (sortBy key l).Perm l := by
  have h := (isort_perm (l.map fun x => (key x, x))).map (·.2)
  rw [List.map_map] at h
  have e : ((fun x : Int × α => x.2) ∘ fun x => (key x, x)) = id := rfl
  rw [e, List.map_id] at h
  exact h
theorem sortBy_map (f : α → β) (k1 : α → Int) (k2 : β → Int) (l : List α) (h : ∀ x ∈ l, k2 (f x) = k1 x) : sortBy k2 (l.map f) = (sortBy k1 l).map f := by
  unfold sortBy
  have e : ((l.map f).map fun x => (k2 x, x)) = (l.map fun x => (k1 x, x)).map fun q => (q.1, f q.2) := by
    rw [List.map_map, List.map_map]
    refine List.map_congr_left fun x hx => ?_
    show (k2 (f x), f x) = (k1 x, f x)
    rw [h x hx]
  rw [e, isort_map, List.map_map, List.map_map]
  rfl
theorem sortBy_congr (k1 k2 : α → Int) (l : List α) (h : ∀ x ∈ l, k2 x = k1 x) : sortBy k2 l = sortBy k1 l := by
  have := sortBy_map (fun x => x) k1 k2 l h
  simpa using this
end
end OwnR

set_option Elab.async false
set_option linter.all false
set_option maxRecDepth 100000
set_option maxHeartbeats 2000000
namespace OwnR
open PySem PySem.Spec PyProof.Rows L2 LamX
/-! ### sorted(xs, key=lambda y: ..) -/
section
variable {prog : Program} {w : World} {A : Around} {E : Value → Shared → Prop} {s : Shared} {g0 : Heap} {L : Addr} {m : Str → Option Value} {news : List (Addr × Obj)} {vs : List Value}
/-- the new list is sorted by its keys and handed out -/
theorem sort_tail {R : PySem.Fin → Shared → Prop} {kz : List Int} {g : Addr} (F : Fr g0 L s.heap m) (N : News g0 L s.heap news) (hl : kz.length = vs.length) (hz : vs.length ≤ sizeLine)
    (turn : ∀ (i : Nat) (v : Value) (k : Int), vs[i]? = some v → kz[i]? = some k → ∀ (h : Heap) (tk : Nat) (own : List (Addr × Obj)), Fr g0 L h m → News g0 L h (news ++ own) →
      wpAny (model prog w) A.in1 (call (.ref g) [v]) (KskEnd g0 L m (news ++ own) k { s with heap := h, toks := tk }) (fun _ _ => False) { s with heap := h, toks := tk })
    (done : ∀ h' tk out c, Fr g0 L h' m → News g0 L h' ((s.heap.objs.size, seqObj "list" out c) :: news) → KskOutSt false kz vs out.toList → R (.done (.ret (.ref s.heap.objs.size))) { s with heap := h', toks := tk }) :
    wpAny (model prog w) A (newList vs >>= fun l => holding [l] (call (.builtin "list.sort") [l] [(Str.ofString "key", .ref g)]) >>= fun _ => ret l) R E s := by
  have hL : L < s.heap.objs.size := F.ns.lt
  have at0 : (s.heap.push (seqObj "list" vs.toArray 0)).get? s.heap.objs.size = some (seqObj "list" vs.toArray 0) := Heap.get?_push_size _ rfl
  have kp : ∀ b o, s.heap.get? b = some o → (s.heap.push (seqObj "list" vs.toArray 0)).get? b = some o := fun b o e => Heap.get?_push_of_some _ e
  refine wpAny_bind (wpAny_newList ?_ hz)
  show wpAny _ _ _ _ _ { s with heap := s.heap.push (seqObj "list" vs.toArray 0) }
  refine wpAny_bind (wpAny_holding (wpAny_call_entry_kw slot_list_sort ⟨_, at0, rfl⟩ entry_list_sort ?body (ksk_l1 _ _)))
  case body =>
    have et := ksk_t1 g s.heap.objs.size
    show wpAny (model prog w) A.in1 (Builtin.«list.sort» ⟨[.ref s.heap.objs.size], [(Str.ofString "key", .ref g)]⟩) _ _ _
    rw [et]
    refine ksk_sortSt (h₀ := g0) (L := L) (m := m) (news := news) (kz := kz) (vs := vs) (s := { s with heap := s.heap.push (seqObj "list" vs.toArray 0) })
      (F.kept kp) (N.grown kp) at0 (Nat.ne_of_gt hL) (Heap.get?_none_of_le (Nat.le_trans F.above (Nat.le_of_lt hL))) (fun p hp => Nat.ne_of_lt (Heap.lt_size (N p hp).1)) hl hz turn
      fun h' tk out c F' N' k' => ⟨_, rfl, wpAny_pure (done h' tk out c F' N' k')⟩
end
/-- a value of the heap, without its token -/
def toV : Value → V
  | .none => .non
  | .bool b => .bl b
  | .int i _ => .int i
  | .str x _ => .str x
  | .bytes b _ => .byt b
  | .float b _ => .flt b
  | .ref a => .ref a
  | .type n => .ty n
  | _ => .non
theorem toV_of {x : V} {u : Value} (r : RelV x u) : toV u = x := by
  cases x with
  | non => cases (show u = Value.none from r); rfl
  | bl b => cases (show u = Value.bool b from r); rfl
  | int i => obtain ⟨t, e⟩ := (show ∃ t, u = Value.int i t from r); cases e; rfl
  | str x => obtain ⟨t, e⟩ := (show ∃ t, u = Value.str x t from r); cases e; rfl
  | byt b => obtain ⟨t, e⟩ := (show ∃ t, u = Value.bytes b t from r); cases e; rfl
  | flt b => obtain ⟨t, e⟩ := (show ∃ t, u = Value.float b t from r); cases e; rfl
  | ref a => cases (show u = Value.ref a from r); rfl
  | ty n => cases (show u = Value.type n from r); rfl
theorem toV_map {xs : List V} {us : List Value} (r : Vals xs us) : us.map toV = xs := by
  induction r with
  | nil => rfl
  | cons a _ ih => rw [List.map_cons, ih, toV_of a]
theorem vals_toV : ∀ {us : List Value}, (∀ u ∈ us, RelV (toV u) u) → Vals (us.map toV) us
  | [], _ => .nil
  | u :: us, h => .cons (h u List.mem_cons_self) (vals_toV fun v hv => h v (List.mem_cons_of_mem _ hv))
theorem vals_all {xs : List V} {us : List Value} (r : Vals xs us) : ∀ u ∈ us, RelV (toV u) u := by
  induction r with
  | nil => intro u hu; cases hu
  | cons a _ ih =>
    intro u hu
    rcases List.mem_cons.mp hu with rfl | hu
    · rw [toV_of a]; exact a
    · exact ih u hu
/-- what comes out, by values -/
theorem out_of {kz : List Int} {vs out : List Value} {xs : List V} (hl : kz.length = vs.length) (r : Vals xs vs) (k : KskOutSt false kz vs out) :
    ∃ ys, Vals ys out ∧ ys = (isort (kz.zip xs)).map (·.2) := by
  obtain ⟨ps, hp, ho, hs, hst⟩ := k
  have hs' : ps.Pairwise (fun a b => a.1 ≤ b.1) := hs
  have e := isort_unique hs' hst
  have e2 : kz.zip xs = (kz.zip vs).map fun q => (q.1, toV q.2) := by
    rw [← toV_map r, List.zip_map_right]
    rfl
  refine ⟨out.map toV, vals_toV fun u hu => ?_, ?_⟩
  · rw [ho] at hu
    obtain ⟨p, hm, rfl⟩ := List.mem_map.mp hu
    exact vals_all r _ (List.of_mem_zip (hp.mem_iff.mp hm)).2
  · rw [e2, isort_map, ho, e, List.map_map, List.map_map]
    rfl
/-- what a key's body gives for the value u: the int k, nothing changed -/
def KeyRun (X : Cx) (par : Str) (body : Expr) (scope : Scope) (s : Shared) (u : Value) (k : Int) : Prop :=
  ∀ (A : Around) (L' f c' : Addr) (h1 : Heap) (tk : Nat), (∀ b o, s.heap.get? b = some o → b ≠ X.env.locals → h1.get? b = some o) → h1.Ns L' (fun y => ([(par, u)] : List (Str × Value)).reverse.lookup y) →
    wpAny (model X.prog X.w) A (eval body (PySem.W.envX (X.env.qual ++ "<lambda>") scope L' f (.ref c') (cloFrom X.env.cells scope.names []))) (fun v s' => ∃ t tk', v = .int k t ∧ s' = { s with heap := h1, toks := tk' }) (fun _ _ => False)
      { s with heap := h1, toks := tk }
/-- the lambda's scope: its parameter, no cell of its own, captured names of the maker -/
structure LamP (sc scope : Scope) (par : Str) : Prop where
  kind : scope.kind = .function
  co : scope.isCoroutine = false
  gen : scope.isGenerator = false
  cell : ∀ y ∈ scope.names, y.2 ≠ .cell
  par : scope.names.lookup par = some .local
  free : ∀ y ∈ scope.names, y.2 = .free → sc.names.lookup y.1 = some .cell ∨ sc.names.lookup y.1 = some .free
def lamPB (sc scope : Scope) (par : Str) : Bool :=
  decide (scope.kind = .function) && !scope.isCoroutine && !scope.isGenerator && decide (scope.names.lookup par = some .local) && scope.names.all fun y => !decide (y.2 = .cell) && (!decide (y.2 = .free) || decide (sc.names.lookup y.1 = some .cell) || decide (sc.names.lookup y.1 = some .free))
theorem lamP_by {sc scope : Scope} {par : Str} (h : lamPB sc scope par = true) : LamP sc scope par := by
  unfold lamPB at h
  simp only [Bool.and_eq_true, Bool.or_eq_true, Bool.not_eq_true', decide_eq_true_eq, decide_eq_false_iff_not, List.all_eq_true] at h
  obtain ⟨⟨⟨⟨h1, h2⟩, h3⟩, h4⟩, h5⟩ := h
  refine ⟨h1, h2, h3, fun y hy => (h5 y hy).1, h4, fun y hy e => ?_⟩
  rcases (h5 y hy).2 with (z | z) | z
  · exact absurd e z
  · exact .inl z
  · exact .inr z
theorem LamP.has {X : Cx} {scope : Scope} {par : Str} (l : LamP X.env.scope scope par) (ok : X.Ok) : ∀ y ∈ scope.names, y.2 = .free → ∃ c, X.env.cells.lookup y.1 = some c := fun y hy e =>
  (l.free y hy e).elim (fun z => ok.has _ (.inl z)) fun z => ok.has _ (.inr z)
/-- the keys' readings: σ, H ahead; the item; its key -/
abbrev TKey := L2.St → Hp → V → Int → Prop
structure PKey (X : Cx) (par : Str) (body : Expr) (scope : Scope) (r : TKey) : Prop where
  run : ∀ (pins : List (Addr × Obj)) (s : Shared) (σ : L2.St) (H : Hp) (x : V) (u : Value) (k : Int), Inv X pins σ H s → RelV x u → r σ H x k → KeyRun X par body scope s u k
/-- sorted(xs, key=lambda y: body): T the tables of code objects -/
def sortWant (K : PySem.W.Frag) (T : List (Addr × Str)) (r : TKey) (σ : L2.St) (Q : VK) : V → Hp → Prop := fun x H1 => ∃ (p : Addr) (xs : List V) (ks : List Int), x = .ref p ∧ (SqL K H1 p xs ∨ SqT K H1 p xs) ∧ ks.length = xs.length ∧
  Tabs T H1 ∧ (∀ H2, ExtN H1 H2 → ∀ (i : Nat) (x : V) (k : Int), xs[i]? = some x → ks[i]? = some k → r σ H2 x k) ∧
  ∀ H2 D, ExtN H1 H2 → Tabs T H2 → H2 D = none → Q (.ref D) (upd H2 D (.lst ((isort (ks.zip xs)).map (·.2))))
def tSortLam (K : PySem.W.Frag) (T : List (Addr × Str)) (te : TE) (r : TKey) : TE := fun σ H Q => te σ H (sortWant K T r σ Q)
def one1 (g : V → Hp → Prop) : List V → Hp → Prop := fun vs H => match vs with
  | [x] => g x H
  | _ => False
theorem one1_of {g : V → Hp → Prop} {vs : List V} {H : Hp} (h : one1 g vs H) : ∃ x, vs = [x] ∧ g x H := by
  match vs, h with
  | [x], h => exact ⟨x, rfl, h⟩
theorem ns_one {h : Heap} {a : Addr} {m m' : Str → Option Value} (x : h.Ns a m) (y : h.Ns a m') : m = m' := by
  obtain ⟨o, es, ep, ho, hd, _, hm⟩ := x
  obtain ⟨o', es', ep', ho', hd', _, hm'⟩ := y
  rw [ho] at ho'
  cases ho'
  rw [hd] at hd'
  cases hd'
  funext z
  rw [← hm z, hm' z]
/-- a new object, all others kept but the frame's, whose names stay -/
theorem inv_laidL {X : Cx} {pins : List (Addr × Obj)} {σ : L2.St} {H : Hp} {s : Shared} {h' : Heap} {D tk : Nat} {o : HO} {m : Str → Option Value} (I : Inv X pins σ H s) (hn : s.heap.Ns X.env.locals m) (hn' : h'.Ns X.env.locals m)
    (k : ∀ b u, s.heap.get? b = some u → b ≠ X.env.locals → h'.get? b = some u) (hD : s.heap.objs.size ≤ D) (new : ObjOk X.prog X.w (upd H D o) h' D o) : Inv X pins σ (upd H D o) { s with heap := h', toks := tk } := by
  have fD : H D = none := I.hok.fresh hD
  have old : ∀ b u, s.heap.get? b = some u → b ≠ D := fun b u e => Nat.ne_of_lt (Nat.lt_of_lt_of_le (Heap.lt_size e) hD)
  have trL : ∀ b u, H b = some u → b ≠ X.env.locals := fun b u e => ne_of_none e I.free
  refine I.step (g' := s.gens) (d' := s.drawn) (t' := tk) (ch := []) (fun _ z => nomatch z) (fun b u nb _ _ e _ => k b u e nb) (fun b u nb _ _ e _ => ⟨u.slots, k b u e nb⟩) (fun b u _ e n => by rw [upd_ne (old b u e)]; exact n) (fun b u _ e => ?_)
    (fun b ys e => by rw [upd_ne (ne_of_none e fD)]; exact e) (fun b u v e => by rw [upd_ne (ne_of_none e fD)]; exact e) (fun b ps e => ⟨#[], by rw [upd_ne (ne_of_none e fD), e]; simp⟩) (fun m' hm => ?_) (fun b u e => ?_) I.bare
  · by_cases hb : b = X.env.locals
    · obtain ⟨ob, _, _, e1, _⟩ := hn'
      exact ⟨ob, by rw [hb]; exact e1⟩
    · exact ⟨u, k b u e hb⟩
  · rw [ns_one hm hn]
    exact hn'
  · by_cases hb : b = D
    · rw [hb, upd_same] at e
      cases e
      rw [hb]
      exact new
    · rw [upd_ne hb] at e
      refine (I.hok b u e).stay (fun c v hc q => k c v q ?_) (fun c q => by rw [upd_ne (ne_of_none q fD)]; exact q) fun c ys q => by rw [upd_ne (ne_of_none q fD)]; exact q
      rcases hc with z | z
      · rw [z]
        exact trL b u e
      · exact trL c _ z
theorem seq_at {X : Cx} {pins : List (Addr × Obj)} {σ : L2.St} {H : Hp} {s : Shared} {p : Addr} {xs : List V} (I : Inv X pins σ H s) (h : SqL X.K H p xs ∨ SqT X.K H p xs) :
    ∃ (its : List Value) (T : String) (o : Obj) (n : Nat), Vals xs its ∧ (T = "list" ∨ T = "tuple") ∧ s.heap.get? p = some o ∧ o.cls = .type T ∧ o.data = .seq its.toArray n ∧ xs.length ≤ sizeLine := by
  rcases h with h | h
  · obtain ⟨its, r, pl, hz⟩ := I.list h
    obtain ⟨o, ho, hc, n, hd⟩ := pl.isList
    exact ⟨its, "list", o, n, r, .inl rfl, ho, hc, hd, hz⟩
  · obtain ⟨its, r, ⟨o, ho, hc, n, hd⟩, hz⟩ := I.tuple h
    exact ⟨its, "tuple", o, n, r, .inr rfl, ho, hc, hd, hz⟩
theorem pe_sortLam {X : Cx} {T : List (Addr × Str)} {c P : Addr} {te : TE} {r : TKey} {e body : Expr} {params : Arguments} {scope : Scope} {par : Str} {p1 pos lpos kpos : Pos} (hr : Room 2 X.A) (TB : TabB X.base X.mg c P) (hcode : X.env.code = .ref c)
    (hm : (P, X.env.qual ++ "<lambda>") ∈ T) (hu : ∀ p ∈ T, p.1 = P → p.2 = X.env.qual ++ "<lambda>") (hg : Gl X "sorted") (hms : X.mg "sorted" = none) (lp : LamP X.env.scope scope par) (he : PE X e te) (hk : PKey X par body scope r)
    (hdef : defaultsOf params X.env = ([], []) := by rfl)
    (hb : ∀ (cl : List (Str × Addr)) (pm cdv ct v : Value), bindArgs (PySem.W.kla_fn "<lambda>" (X.env.qual ++ "<lambda>") params body scope cl pm cdv ct) ⟨[v], []⟩ = pure [(par, v)] := by intros; rfl)
    (h0 : starEach [e] X.env = (false, eval e X.env) :: starEach [] X.env := by rfl)
    (h1 : backTo pos (starEach [e] X.env) = (false, eval e X.env) :: backTo pos (starEach [] X.env) := by rfl) (h2 : (backTo pos (starEach [e] X.env)).any (·.1) = false := by rfl)
    (h3 : (backToKw pos (keywordEach [⟨some "key", .Lambda params body scope lpos, kpos⟩] X.env)).all (·.1.isSome) = true := by rfl) (h4 : (backToKw pos (keywordEach [⟨some "key", .Lambda params body scope lpos, kpos⟩] X.env)).any (·.1.isNone) = false := by rfl)
    (h5 : (backToKw pos (keywordEach [⟨some "key", .Lambda params body scope lpos, kpos⟩] X.env)).filterMap (·.1) = [Str.ofString "key"] := by rfl) :
    PE X (.Call (.Name "sorted" p1) [e] [⟨some "key", .Lambda params body scope lpos, kpos⟩] pos) (tSortLam X.K T te r) := by
  have hpa : PA X [e] (tCons te tNil) := pa_cons he pa_nil h0
  refine ⟨fun pins s σ H Q I h => ?_⟩
  refine wpAny_Call_Name_kw (ld_blt I hg hms (by decide +kernel : bootBuiltins "sorted" = some (.builtin "sorted")) ?_)
  refine PyProof.Rows.callWith_kw (thn (hpa.run pos pins s σ H (one1 (sortWant X.K T r σ Q)) I h) fun us s1 hs1 => ?_) h1 h2 h3 h4
  obtain ⟨vs, H1, I1, rv, hq⟩ := hs1
  obtain ⟨x, rfl, hq⟩ := one1_of hq
  obtain ⟨p, xs, ks, rfl, hsq, hlk, hT, hR, q⟩ := hq
  obtain ⟨u1, rfl, ru⟩ := vals1 rv
  cases (show u1 = Value.ref p from ru)
  rw [h5]
  show wpAny _ _ (evalAll ((do let v ← eval (.Lambda params body scope lpos) X.env; standAt pos; pure v) :: [])) _ _ s1
  refine wpAny_evalAll_cons (wpAny_bind (lam_make2 I1 TB hcode hm hu hT hdef (lp.has I1.ok) fun f c' pm ctv H2 s2 I2 eN T2 hf hfn hfs hc => wpAny_bind (wpAny_standAt (wpAny_pure (wpAny_pure ?_)))))
  show wpAny _ _ (call (.builtin "sorted") [.ref p] [(Str.ofString "key", .ref f)]) _ _ s2
  have hsq2 : SqL X.K H2 p xs ∨ SqT X.K H2 p xs := by
    rcases hsq with ((z | ⟨o, z⟩) | z) | ((z | ⟨o, z⟩) | z)
    · exact .inl (.inl (.inl (eN _ _ z (fun _ y => nomatch y))))
    · exact .inl (.inl (.inr ⟨o, eN _ _ z (fun _ y => nomatch y)⟩))
    · exact .inl (.inr z)
    · exact .inr (.inl (.inl (eN _ _ z (fun _ y => nomatch y))))
    · exact .inr (.inl (.inr ⟨o, eN _ _ z (fun _ y => nomatch y)⟩))
    · exact .inr (.inr z)
  obtain ⟨its, Ty, o, n, rI, hTy, ho, hcl, hd, hz⟩ := seq_at I2 hsq2
  have hli := rI.length
  refine PyProof.Rows.call_function_entry_kw kind_sorted plain_sorted entry_sorted (ksk_s1 _ _) ?_
  show wpAny _ _ (checkCount "sorted" 1 1 1 >>= fun _ => collect (.ref p) >>= fun vs => newList vs >>= fun l => holding [l] (call (.builtin "list.sort") [l] [(Str.ofString "key", .ref f)]) >>= fun _ => ret l) _ _ _
  refine wpAny_bind (m := checkCount "sorted" 1 1 1) (wpAny_pure (wpAny_bind (wpAny_collect_seq p hTy ho hcl hd (fun h' kp => ?_) (by rw [List.size_toArray]; omega))))
  have e1 : its.toArray.toList = its := by simp
  rw [e1]
  have I3 : Inv X pins σ H2 { s2 with heap := h', toks := s2.toks } := I2.kept kp
  obtain ⟨m, F⟩ := I3.fr
  have N := news_all (g := X.base) (h := h') (L := X.env.locals)
  have keepAll : ∀ {hh : Heap} {mm : Str → Option Value} {own : List (Addr × Obj)}, Fr X.base X.env.locals hh mm → News X.base X.env.locals hh (allNews X.base h' X.env.locals ++ own) → ∀ b ob, h'.get? b = some ob → b ≠ X.env.locals → hh.get? b = some ob := by
    intro hh mm own F' N' b ob eb nb
    cases q : X.base.get? b with
    | some ob' =>
      have := I3.bk b ob' q
      rw [eb] at this
      cases this
      exact F'.keep b _ q
    | none => exact (N' (b, ob) (List.mem_append_left _ (mem_allNews nb q eb))).1
  have hr1 : Room 1 X.A.in1 := hr.in1
  refine sort_tail (kz := ks) F N (by rw [hlk, hli]) (by rw [← hli]; exact hz) (fun i v k hv hk' hh tk own F' N' => ?_) fun hh tk out cc F' N' ko => ?_
  · have hi : i < its.length := (List.getElem?_eq_some_iff.mp hv).1
    obtain ⟨x, hx⟩ : ∃ x, xs[i]? = some x := ⟨_, List.getElem?_eq_getElem (by omega)⟩
    obtain ⟨v', hv', rx⟩ := rI.get hx
    have ev : v' = v := Option.some.inj (hv'.symm.trans hv)
    subst ev
    have nfL : f ≠ X.env.locals := fun z => by
      obtain ⟨mL, ⟨oL, _, _, eL, dL, _⟩, _⟩ := I2.loc
      rw [← z, hf] at eL
      cases eL
      cases dL
    have hff := keepAll F' N' f _ (kp _ _ hf) nfL
    obtain ⟨⟨oc, cv, ct, d1, d2, d3⟩, _, _⟩ := I2.hok c' _ hc
    have hcc := keepAll F' N' c' _ (kp _ _ d1) (ne_of_none hc I2.free)
    refine wpAny_call (PySem.W.kla_callFunE hr.in1.in1.depth hff rfl lp.co lp.gen rfl ⟨c', oc, cv, ct, rfl, hcc, d2, d3⟩ ?_)
    rw [hb]
    refine wpAny_pure (wpAny_newFunctionEnv lp.cell (fun y hy => ?_) (fun h₁ hns hsb => ⟨(I2.ok.mod.nolimit.keeps F'.keep).fresh _ hsb, ?_⟩) lp.kind)
    · rw [List.mem_singleton.mp hy]
      exact lp.par
    · have kp1 : ∀ b ob, hh.get? b = some ob → h₁.get? b = some ob := fun b ob e => hsb.extBut b ob (Nat.ne_of_lt (Heap.lt_size e)) (Heap.get?_push_of_some _ e)
      show codeAny _ _ (.expr body (PySem.W.envX (X.env.qual ++ "<lambda>") scope hh.objs.size f (.ref c') (cloFrom X.env.cells scope.names []))) _ _
      refine PySem.W.kla_codeExpr (wpAny_mono (hk.run pins _ σ H2 x v' k I3 rx (hR H2 eN i x k hx hk') _ hh.objs.size f c' h₁ (tk + 1) (fun b ob e nb => kp1 b ob (keepAll F' N' b ob e nb)) hns) (fun v s' hq => ?_) fun _ _ z => z.elim)
      obtain ⟨t, tk', ev, es⟩ := hq
      exact ⟨h₁, tk', t, es, ev, ⟨F'.ns.keeps kp1, fun b ob e => kp1 b ob (F'.keep b ob e), F'.above⟩, fun z hz => ⟨kp1 _ _ (N' z hz).1, (N' z hz).2⟩⟩
  · obtain ⟨ys, r2, ey⟩ := out_of (by rw [hlk, hli]) rI ko
    have lo : ys.length = xs.length := by
      rw [ey, List.length_map, (isort_perm _).length_eq, List.length_zip, hlk, Nat.min_self]
    have at1 := (N' _ List.mem_cons_self).1
    have I4 := inv_laidL (D := h'.objs.size) (tk := tk) (o := .lst ys) I3 F.ns F'.ns (fun b ob e nb => keepAll (own := []) F' (fun z hz => N' z (List.mem_cons_of_mem _ (by simpa using hz))) b ob e nb) (Nat.le_refl _)
      ⟨by rw [lo]; exact hz, out.toList, cc, r2, by rw [Array.toArray_toList]; exact at1⟩
    refine ⟨_, rfl, .ref h'.objs.size, _, I4, rfl, ?_⟩
    rw [ey]
    exact q H2 h'.objs.size eN T2 (I3.hok.fresh (Nat.le_refl _))
end OwnR

set_option Elab.async false
set_option linter.all false
set_option maxRecDepth 100000
set_option maxHeartbeats 2000000
namespace OwnR
open PySem PySem.Spec PyProof.Rows L2 LamX
/-! ### two bodies of keys: d[y], d captured; y[n] of a tuple -/
/-- what is read of a tracked object stays where all but the frame is kept -/
theorem ok_keepL {X : Cx} {pins : List (Addr × Obj)} {σ : L2.St} {H : Hp} {s : Shared} {h' : Heap} {b : Addr} {u : HO} (I : Inv X pins σ H s) (k : ∀ b o, s.heap.get? b = some o → b ≠ X.env.locals → h'.get? b = some o) (e : H b = some u) : ObjOk X.prog X.w H h' b u := by
  refine (I.hok b u e).stay (fun c v hc q => k c v q ?_) (fun _ q => q) fun _ _ q => q
  rcases hc with z | z
  · rw [z]
    exact ne_of_none e I.free
  · exact ne_of_none z I.free
theorem rd_keepL {X : Cx} {pins : List (Addr × Obj)} {σ : L2.St} {H : Hp} {s : Shared} {h' : Heap} {b : Addr} {u : HO} (I : Inv X pins σ H s) (k : ∀ b o, s.heap.get? b = some o → b ≠ X.env.locals → h'.get? b = some o) (e : Rd H b u) : ObjOk X.prog X.w H h' b u := by
  rcases e with e | ⟨o, e⟩
  · exact ok_keepL I k e
  · exact (ok_keepL I k e).2
def keyDict (j : Nat) : TKey := fun σ H x k => ∃ (a : Addr) (kvs : List (Key × V)) (key : Key), σ[j]? = some (some (.ref a)) ∧ Rd H a (.dK kvs) ∧ x = kV key ∧ valV kvs key = some (.int k)
theorem pk_dict {X : Cx} {par d : Str} {scope : Scope} {p1 p2 p3 : Pos} {j : Nat} (hN : X.N[j]? = some d) (hd : (d, NameKind.free) ∈ scope.names) (hl : scope.names.lookup d = some .free) (lp : LamP X.env.scope scope par)
    (hv : Vis X.env.scope d) (n1 : (d == ("__debug__" : Str)) = false := by decide) (n2 : (par == ("__debug__" : Str)) = false := by decide) (n3 : (d == ("__classdict__" : Str)) = false := by decide) (hsl : NoSl (.Name par p2) := by exact fun _ _ => rfl) :
    PKey X par (.Subscript (.Name d p1) (.Name par p2) p3) scope (keyDict j) := by
  refine ⟨fun pins s σ H x u k I rx hr A L' f c' h1 tk kp hns => ?_⟩
  obtain ⟨a, kvs, key, hs, hrd, ex, hval⟩ := hr
  subst ex
  have hfree := lp.has I.ok
  obtain ⟨m, hm, hlook⟩ := I.loc
  obtain ⟨w', rw', lk⟩ := hlook j d (.ref a) hN hs hv
  cases (show w' = Value.ref a from rw')
  have kd : X.env.scope.names.lookup d = some .cell ∨ X.env.scope.names.lookup d = some .free := lp.free _ hd rfl
  obtain ⟨c, hc, hcell⟩ : ∃ c, X.env.cells.lookup d = some c ∧ s.heap.IsCell c (some (.ref a)) := by
    rcases lk with ⟨k1, _⟩ | ⟨_, c, hc, z⟩
    · have k1 : X.env.scope.names.lookup d = some .local := k1
      rcases kd with k2 | k2 <;> rw [k2] at k1 <;> cases k1
    · exact ⟨c, hc, z⟩
  have hcell' : h1.IsCell c (some (.ref a)) := by
    obtain ⟨o, ho, hd'⟩ := hcell
    exact ⟨o, kp c o ho (I.cne d c hc), hd'⟩
  have hclo : (cloFrom X.env.cells scope.names []).lookup d = some c := NdefX.clo_has hfree hd hc
  obtain ⟨z, hsm, vs, rel, dd⟩ := (show ObjOk X.prog X.w H h1 a (.dK kvs) from rd_keepL I kp hrd)
  obtain ⟨w2, hw, rw2⟩ := RelO.some_of (v := .int k) (o := valueAt vs key) (by rw [← hval]; exact rel.val key)
  obtain ⟨t, rfl⟩ := (show ∃ t, w2 = Value.int k t from rw2)
  have tdict : ∀ tk', ({ s with heap := h1, toks := tk' } : Shared).TypeIs (.ref a) "dict" := fun tk' => (dd.mapOf).typeIs
  refine subD_of PySem.F.slot_dict_getitem.lookup hsl (wpAny_Name (wpAny_loadName_free lp.kind hl hclo hcell' ?_ n3) n1)
  refine wpAny_Name (wpAny_loadName_local (v := u) lp.kind lp.par hns ?_ ?_) n2
  · show ([(par, u)] : List (Str × Value)).reverse.lookup par = some u
    simp [List.lookup]
  · exact ⟨tdict _, wpAny_getItem_of (kV_is rx) dd.mapOf hw ⟨t, _, rfl, rfl⟩⟩
def keyItem (K : PySem.W.Frag) (n : Nat) : TKey := fun σ H x k => ∃ (t : Addr) (ys : List V), x = .ref t ∧ SqT K H t ys ∧ ys[n]? = some (.int k)
theorem pk_item {X : Cx} {par : Str} {scope : Scope} {p1 p2 p3 : Pos} {n j : Nat} (lp : LamP X.env.scope scope par) (hn : n < 1000) (n2 : (par == ("__debug__" : Str)) = false := by decide) :
    PKey X par (.Subscript (.Name par p1) (.Constant (.int (n : Int)) j p2) p3) scope (keyItem X.K n) := by
  refine ⟨fun pins s σ H x u k I rx hr A L' f c' h1 tk kp hns => ?_⟩
  obtain ⟨t, ys, ex, hsq, hy⟩ := hr
  subst ex
  cases (show u = Value.ref t from rx)
  have hit : ∃ its : List Value, Vals ys its ∧ IsTup h1 t its.toArray ∧ ys.length ≤ sizeLine := by
    rcases hsq with z | z
    · obtain ⟨hz, its, r, it⟩ := (show ObjOk X.prog X.w H h1 t (.tup ys) from rd_keepL I kp z)
      exact ⟨its, r, it, hz⟩
    · obtain ⟨its, r, ⟨o, ho, hc, n', hd⟩, hz⟩ := I.tuple (.inr z)
      refine ⟨its, r, ⟨o, kp _ _ ho ?_, hc, n', hd⟩, hz⟩
      intro zz
      obtain ⟨mL, ⟨oL, _, _, eL, dL, _⟩, _⟩ := I.loc
      rw [← zz, ho] at eL
      cases eL
      rw [hd] at dL
      cases dL
  obtain ⟨its, r, it, hz⟩ := hit
  obtain ⟨w2, hw, rw2⟩ := r.get hy
  obtain ⟨t', rfl⟩ := (show ∃ t, w2 = Value.int k t from rw2)
  have hl := r.length
  have hlt : n < ys.length := (List.getElem?_eq_some_iff.mp hy).1
  have hn63 := line63
  refine Subscript_ (wpAny_Name (wpAny_loadName_local lp.kind lp.par hns (v := Value.ref t) ?_ (wpAny_Constant_int ?_)) n2)
  · show ([(par, Value.ref t)] : List (Str × Value)).reverse.lookup par = some (Value.ref t)
    simp [List.lookup]
  · exact subscriptTail_builtinR (x := Value.int k t') it.typeIs slot_tuple_getitem.lookup
      (getItem_tuple (j := n) (Q := fun r s' => r = Value.int k t' ∧ ∃ t1 tk', r = Value.int k t1 ∧ s' = { s with heap := h1, toks := tk' }) it (by omega) (by omega)
        (by rw [List.size_toArray, ← hl, seqIndex_of (by omega) (by omega)]; simp) (by simpa using hw) ⟨rfl, t', _, rfl, rfl⟩) rfl
end OwnR

set_option Elab.async false
set_option linter.all false
set_option maxRecDepth 100000
set_option maxHeartbeats 2000000
namespace OwnR
open PySem PySem.Spec PyProof.Rows L2
section
variable {X : Cx} {CX : CXT} {k : Nat} {g C : Addr} {sp : Sp} {E : XK}
/-! ### y in x, y not in x: x an instance of C, which has __contains__ -/
def rInO (C : Addr) (sp : Sp) (E : XK) (neg : Bool) : R2 := fun x y H Q => ∃ a dx fs, y = .ref a ∧ H a = some (.ins C dx fs) ∧ sp [.ref a, x] H (fun z H' => ∃ b, z = .bl b ∧ Q (.bl (b != neg)) H') E
theorem op_inO (hs : PySem.W.findIn X.K (.ref C) "__contains__" = some (some (.ref g))) (hf : PySem.W.isFn X.K (.ref g) = true) (F : FnR X.prog X.w X.K X.mg X.base CX k g sp) (hr : Room k X.A) (hx : Passes CX X E) : OpR X (compareOp .In) (rInO C sp E false) := by
  intro pins s σ H x y v u Q I rx ry h
  obtain ⟨a, dx, fs, rfl, ha, q⟩ := h
  cases (show u = Value.ref a from ry)
  obtain ⟨ox, od, J, hd⟩ := StX.insC_at I (.inr ⟨dx, fs, ha⟩)
  obtain ⟨m, hF⟩ := I.fr
  refine PySem.W.in_K hF I.ok.mod.kin J hs hf (thn (wpAny_call (run_fnR (us := [.ref a, v]) (vs := [.ref a, x]) F hr hx I (.cons rfl (.cons rx .nil)) q)) fun w' s' hq => ?_)
  obtain ⟨z, H', I', rz, b, ez, qz⟩ := hq
  subst ez
  cases (show w' = Value.bool b from rz)
  exact wpAny_truthy_bool ⟨.bl b, H', I', rfl, by simpa using qz⟩
theorem op_notInO (hs : PySem.W.findIn X.K (.ref C) "__contains__" = some (some (.ref g))) (hf : PySem.W.isFn X.K (.ref g) = true) (F : FnR X.prog X.w X.K X.mg X.base CX k g sp) (hr : Room k X.A) (hx : Passes CX X E) : OpR X (compareOp .NotIn) (rInO C sp E true) := by
  intro pins s σ H x y v u Q I rx ry h
  obtain ⟨a, dx, fs, rfl, ha, q⟩ := h
  cases (show u = Value.ref a from ry)
  obtain ⟨ox, od, J, hd⟩ := StX.insC_at I (.inr ⟨dx, fs, ha⟩)
  obtain ⟨m, hF⟩ := I.fr
  refine PySem.W.notIn_K hF I.ok.mod.kin J hs hf (thn (wpAny_call (run_fnR (us := [.ref a, v]) (vs := [.ref a, x]) F hr hx I (.cons rfl (.cons rx .nil)) q)) fun w' s' hq => ?_)
  obtain ⟨z, H', I', rz, b, ez, qz⟩ := hq
  subst ez
  cases (show w' = Value.bool b from rz)
  exact wpAny_truthy_bool ⟨.bl (!b), H', I', rfl, by simpa using qz⟩
/-! ### o[i]: o an instance of C, which has __getitem__ -/
def tSubO (C : Addr) (sp : Sp) (E : XK) (to ti : TE) : TE := fun σ H Q => to σ H fun x H1 => ti σ H1 fun y H2 => ∃ a dx fs, x = .ref a ∧ H2 a = some (.ins C dx fs) ∧ sp [.ref a, y] H2 Q E
theorem pe_subO {o i : Expr} {pos : Pos} {to ti : TE} (hs : PySem.W.findIn X.K (.ref C) "__getitem__" = some (some (.ref g))) (hf : PySem.W.isFn X.K (.ref g) = true) (hfi : PySem.W.fnIn X.K g = true) (F : FnR X.prog X.w X.K X.mg X.base CX k g sp) (hr : Room (k + 1) X.A) (hx : Passes CX X E)
    (ho : PE X o to) (hi : PE X i ti) (hsl : ∀ a v, subscripted i true (.ref a) v = runValue (.builtin "lifetime.subscript" ⟨[.ref a, v], []⟩) := by intros; with_unfolding_all rfl) : PE X (.Subscript o i pos) (tSubO C sp E to ti) := by
  refine ⟨fun pins s σ H Q I h => ?_⟩
  refine Subscript_ (thn (ho.run pins s σ H _ I h) fun u s1 ⟨x, H1, I1, rx, q1⟩ => thn (hi.run pins s1 σ H1 _ I1 q1) fun iv s2 ⟨y, H2, I2, ry, a, dx, fs, ex, ha, q⟩ => ?_)
  subst ex
  cases (show u = Value.ref a from rx)
  obtain ⟨ox, od, J, hd⟩ := StX.insC_at I2 (.inr ⟨dx, fs, ha⟩)
  obtain ⟨m, hF⟩ := I2.fr
  exact PySem.W.sub_K hF I2.ok.mod.kin J hs hfi hf (wpAny_call (SlX.run_at (us := [.ref a, iv]) (ws := [.ref a, y]) F hr.in1 I2.env0.in1 hx I2 (.cons rfl (.cons ry .nil)) q)) (hsl a iv)
/-! ### len(o) -/
def rLenO (C : Addr) (sp : Sp) (E : XK) : List V → Hp → VK → Prop := fun xs H Q => ∃ a dx fs, xs = [V.ref a] ∧ H a = some (.ins C dx fs) ∧ sp [.ref a] H (fun z H' => ∃ n : Nat, z = .int (n : Int) ∧ n ≤ sizeLine ∧ Q (.int (n : Int)) H') E
theorem call_lenO (hs : PySem.W.findIn X.K (.ref C) "__len__" = some (some (.ref g))) (hf : PySem.W.isFn X.K (.ref g) = true) (F : FnR X.prog X.w X.K X.mg X.base CX k g sp) (hr : Room (k + 1) X.A) (hx : Passes CX X E) : CallR X (.builtin "len") (rLenO C sp E) := by
  intro pins s σ H xs us Q I r h
  obtain ⟨a, dx, fs, rfl, ha, q⟩ := h
  obtain ⟨u, rfl, ru⟩ := r.one
  cases (show u = Value.ref a from ru)
  obtain ⟨ox, od, J, hd⟩ := StX.insC_at I (.inr ⟨dx, fs, ha⟩)
  obtain ⟨m, hF⟩ := I.fr
  refine PySem.W.len_K hF I.ok.mod.kin J hs hf (thn (wpAny_call (SlX.run_at (us := [.ref a]) (ws := [.ref a]) F hr.in1 I.env0.in1 hx I (.cons rfl .nil) q)) fun w' s' hq => ?_)
  obtain ⟨z, H', I', rz, n, ez, hn, qz⟩ := hq
  subst ez
  obtain ⟨t, e⟩ := (show ∃ t, w' = Value.int (n : Int) t from rz)
  cases e
  have := line63
  exact ⟨⟨by omega, by omega⟩, .int (n : Int), H', I'.tok _, ⟨_, rfl⟩, qz⟩
/-! ### a + b, both of C, which has __add__ -/
def rAddO (C : Addr) (sp : Sp) (E : XK) : R2 := fun x y H Q => ∃ a dx fs b dy gs, x = .ref a ∧ y = .ref b ∧ H a = some (.ins C dx fs) ∧ H b = some (.ins C dy gs) ∧ sp [.ref a, .ref b] H Q E
theorem op_addO (hc : PySem.W.selfFirst X.K C = true) (hs : PySem.W.findIn X.K (.ref C) (PySem.dunder (Operator.info .Add).2) = some (some (.ref g))) (hf : PySem.W.isFn X.K (.ref g) = true) (F : FnR X.prog X.w X.K X.mg X.base CX k g sp) (hr : Room k X.A) (hx : Passes CX X E) : OpR X (binaryOp .Add) (rAddO C sp E) := by
  intro pins s σ H x y v u Q I rx ry h
  obtain ⟨a, dx, fs, b, dy, gs, rfl, rfl, ha, hb, q⟩ := h
  cases (show v = Value.ref a from rx)
  cases (show u = Value.ref b from ry)
  obtain ⟨ox, od, J, hd⟩ := StX.insC_at I (.inr ⟨dx, fs, ha⟩)
  obtain ⟨oy, od', J', hd'⟩ := StX.insC_at I (.inr ⟨dy, gs, hb⟩)
  obtain ⟨m, hF⟩ := I.fr
  refine PySem.W.binop_K (op := .Add) hF I.ok.mod.kin J J'.type hc hs hf (thn (wpAny_call (run_fnR (us := [.ref a, .ref b]) (vs := [.ref a, .ref b]) F hr hx I (.cons rfl (.cons rfl .nil)) q)) fun w' s' hq => ?_)
  obtain ⟨z, H', I', rz, qz⟩ := hq
  exact SlX.cmpback rz ⟨z, H', I', rz, qz⟩
/-! ### x(*y), x a slot that holds the class C -/
def tMakeLS (K : PySem.W.Frag) (C : Addr) (sp : Sp) (E : XK) (tf te : TE) : TE := fun σ H Q => tf σ H fun z H0 => z = .ref C ∧ te σ H0 fun y H1 => ∃ a xs, y = V.ref a ∧ (SqT K H1 a xs ∨ SqL K H1 a xs) ∧ ∀ x dx, H1 x = none → H1 dx = none → dx ≠ x →
  sp (V.ref x :: xs) (upd (upd H1 dx (.own x)) x (.ins C dx [])) (fun v H2 => v = .non ∧ Q (.ref x) H2) E
theorem pe_makeLS {x : Str} {e : Expr} {p p2 pos : Pos} {tf te : TE} {f : Addr} (M : Mk X.K C f) (F : FnR X.prog X.w X.K X.mg X.base CX k f sp) (hr : Room (k + 1) X.A) (hx : Passes CX X E) (hf : PE X (.Name x p) tf) (he : PE X e te)
    (hst : starEach [.Starred e p2] X.env = [(true, eval e X.env)] := by rfl) : PE X (.Call (.Name x p) [.Starred e p2] [] pos) (tMakeLS X.K C sp E tf te) := by
  refine ⟨fun pins s σ H Q I h => ?_⟩
  refine wpAny_Call_Name_kw (thn (hf.run pins s σ H _ I h) fun u s0 ⟨z, H0, I0, rz, ez, q0⟩ => ?_)
  subst ez
  cases (show u = Value.ref C from rz)
  refine PySem.W.callWith_S (h₀ := X.base) I.ok.mod.kin M.kp (thn (he.run pins s0 σ H0 _ I0 q0) fun v s1 ⟨y, H1, I1, ry, a, xs, ey, hxs, q⟩ => ?_) hst
  subst ey
  cases (show v = Value.ref a from ry)
  exact StX.star_any I1 hxs fun us s2 I2 rv => ⟨I2.kIn, StX.run_makeR M F hr hx I2 rv q⟩
end
/-- x(*y), x a class of the module -/
theorem pe_makeGS {X : Cx} {CX : CXT} {k : Nat} {C : Addr} {sp : Sp} {E : XK} {x : Str} {e : Expr} {p p2 pos : Pos} {te : TE} {f : Addr} (M : Mk X.K C f) (F : FnR X.prog X.w X.K X.mg X.base CX k f sp) (hr : Room (k + 1) X.A) (hx : Passes CX X E) (hg : Gl X x) (hm : X.mg x = some (.ref C)) (he : PE X e te)
    (hdb : (x == ("__debug__" : Str)) = false := by decide) (hst : starEach [.Starred e p2] X.env = [(true, eval e X.env)] := by rfl) : PE X (.Call (.Name x p) [.Starred e p2] [] pos) (tMakeLS X.K C sp E (tC (.ref C)) te) :=
  pe_makeLS M F hr hx (pe_glob hg hm rfl hdb) he hst
/-! ### xs[i] op= e, xs a list -/
theorem pg_list {X : Cx} : PGet X (rIxL X.K) := by
  intro pins s σ H x y v u Q I rx ry h
  obtain ⟨p, xs, i, z, rfl, rfl, hq, he, q⟩ := h
  cases (show v = Value.ref p from rx)
  obtain ⟨t, rfl⟩ := (show ∃ t, u = Value.int i t from ry)
  obtain ⟨its, r, pl, hz⟩ := I.list hq
  obtain ⟨j, h1, h2, h3, h4, h5⟩ := atI_get he
  obtain ⟨w, ew, rw'⟩ := r.get h2
  have hl := r.length
  have hn := line63
  have fin : EP X pins σ Q w s := ⟨z, H, I, rw', q⟩
  by_cases h0 : 0 ≤ i
  · have hj : i.toNat = j := by
      rw [seqIndex_of h0 h5] at h1
      exact Option.some.inj h1
    exact wpAny_getItem_list pl.isList h0 (by omega) (by rw [hj]; simpa using ew) fin
  · have hj : (i + (its.toArray.size : Int)).toNat = j := by
      rw [seqIndex_neg (by omega) h4] at h1
      rw [List.size_toArray, ← hl]
      exact Option.some.inj h1
    exact wpAny_getItem_list_neg pl.isList (by omega) (by rw [List.size_toArray] <;> omega) (by omega) (by rw [hj]; simpa using ew) fin
end OwnR

set_option Elab.async false
set_option linter.all false
set_option maxRecDepth 100000
namespace Sl
open PySem L2
def top (i : Nat) : Stmt := PySem.Challenge.pw_slowleaders_k68_whole_hidden_paces_by_al.main.body.getD i (.Pass ⟨0, 0, 0, 0⟩)
abbrev sRoadError : Stmt := top 2
abbrev sInvalidRoad : Stmt := top 3
abbrev sInvalidRoadInit : Stmt := inClass sInvalidRoad 0
abbrev sInvalidCars : Stmt := top 4
abbrev sInvalidCarsInit : Stmt := inClass sInvalidCars 0
abbrev sInvalidNumber : Stmt := top 5
abbrev sUnknownCar : Stmt := top 6
abbrev sUnknownCarInit : Stmt := inClass sUnknownCar 0
abbrev sInvalidName : Stmt := top 7
abbrev sTooManyCars : Stmt := top 8
abbrev sInvalidOperation : Stmt := top 9
abbrev sInvalidOperationInit : Stmt := inClass sInvalidOperation 0
abbrev sContradiction : Stmt := top 10
abbrev sIsNumber : Stmt := top 17
abbrev sIsName : Stmt := top 18
abbrev sIsCar : Stmt := top 19
abbrev sCheckCars : Stmt := top 20
abbrev sCheckNewName : Stmt := top 21
abbrev sInOrder : Stmt := top 23
abbrev sFollow : Stmt := top 24
abbrev sDriveAll : Stmt := top 25
abbrev sDrive : Stmt := top 26
abbrev sDInit : Stmt := inClass sDrive 0
abbrev sDCheckCar : Stmt := inClass sDrive 1
abbrev sDCheckPlace : Stmt := inClass sDrive 2
abbrev sDCheckSection : Stmt := inClass sDrive 3
abbrev sDGet : Stmt := inClass sDrive 4
abbrev sDCall : Stmt := inClass sDrive 5
abbrev sDHas : Stmt := inClass sDrive 6
abbrev sDLen : Stmt := inClass sDrive 7
abbrev sDOrderAt : Stmt := inClass sDrive 9
abbrev sDLeader : Stmt := inClass sDrive 10
abbrev sDRowsOf : Stmt := inClass sDrive 11
abbrev sDOvertakings : Stmt := inClass sDrive 12
abbrev sDLosses : Stmt := inClass sDrive 13
abbrev sIsSection : Stmt := top 33
abbrev sUnitsOf : Stmt := top 34
abbrev sRuns : Stmt := top 35
abbrev sRoad : Stmt := top 36
abbrev sRInit : Stmt := inClass sRoad 0
abbrev sROfUnits : Stmt := inClass sRoad 1
abbrev sRSections : Stmt := inClass sRoad 2
abbrev sRUnits : Stmt := inClass sRoad 3
abbrev sRWidened : Stmt := inClass sRoad 4
abbrev sRLen : Stmt := inClass sRoad 5
abbrev sRGet : Stmt := inClass sRoad 6
abbrev sRHas : Stmt := inClass sRoad 8
abbrev sRAdd : Stmt := inClass sRoad 9
abbrev sRMul : Stmt := inClass sRoad 10
abbrev sREq : Stmt := inClass sRoad 11
abbrev sAreInOrder : Stmt := top 38
abbrev sHiddenPace : Stmt := top 39
abbrev sHiddenPaceInit : Stmt := inClass sHiddenPace 0
abbrev sHiddenPaceCandidates : Stmt := inClass sHiddenPace 1
abbrev sHiddenPaceHistory : Stmt := inClass sHiddenPace 2
abbrev sHiddenPaceCheckPlace : Stmt := inClass sHiddenPace 3
abbrev sHiddenPaceAccept : Stmt := inClass sHiddenPace 4
abbrev sHiddenPaceSee : Stmt := inClass sHiddenPace 5
abbrev sHiddenPaceSeeOrder : Stmt := inClass sHiddenPace 6
abbrev sHiddenPacePossibleTicks : Stmt := inClass sHiddenPace 7
abbrev sHiddenPaceBestPlace : Stmt := inClass sHiddenPace 8
abbrev sTaken : Stmt := top 41
abbrev sUnits : Stmt := top 42
abbrev sSections : Stmt := top 43
abbrev sCars : Stmt := top 44
abbrev sDriven : Stmt := top 45
abbrev sDrawn : Stmt := top 46
abbrev sRaised : Stmt := top 47
abbrev sLaw : Stmt := top 48
end Sl

set_option Elab.async false
set_option linter.all false
set_option maxRecDepth 100000
set_option maxHeartbeats 1000000
namespace Sl
open PySem PySem.Spec L2 OwnR
theorem yes_of {σ : L2.St} {H : Hp} {A S : Hp → Prop} (h : A H) : tYes σ H (fun b H3 => if b = true then A H3 else S H3) := by
  show (if true = true then A H else S H)
  rw [if_pos rfl]
  exact h
/-- the module's names that the program asks: built-ins that stand, its constants -/
structure Mg (mg : Str → Option Value) : Prop where
  isinstance : mg "isinstance" = none
  int : mg "int" = none
  bool : mg "bool" = none
  str : mg "str" = none
  tuple : mg "tuple" = none
  len : mg "len" = none
  all : mg "all" = none
  enumerate : mg "enumerate" = none
  sorted : mg "sorted" = none
  list : mg "list" = none
  range : mg "range" = none
  sum : mg "sum" = none
  mostCars : ∃ t, mg "MOST_CARS" = some (.int 10 t)
  longestName : ∃ t, mg "LONGEST_NAME" = some (.int 8 t)
  latestStart : ∃ t, mg "LATEST_START" = some (.int 1000000 t)
  slowestPace : ∃ t, mg "SLOWEST_PACE" = some (.int 60 t)
  mostSections : ∃ t, mg "MOST_SECTIONS" = some (.int 12 t)
  longestSection : ∃ t, mg "LONGEST_SECTION" = some (.int 99 t)
theorem boot_isinstance : bootBuiltins "isinstance" = some (.builtin "isinstance") := by decide +kernel
theorem boot_tInt : bootBuiltins "int" = some (.type "int") := by decide +kernel
theorem boot_tBool : bootBuiltins "bool" = some (.type "bool") := by decide +kernel
theorem boot_tStr : bootBuiltins "str" = some (.type "str") := by decide +kernel
theorem boot_tTuple : bootBuiltins "tuple" = some (.type "tuple") := by decide +kernel
theorem boot_all : bootBuiltins "all" = some (.builtin "all") := by decide +kernel
section
variable {P : Program} {w : World} {K : PySem.W.Frag} {mg : Str → Option Value} {base : Heap}
/-! ### is_number of an int -/
def spIsNumber : Sp := fun vs H Q _ => ∃ i lo hi : Int, vs = [.int i, .int lo, .int hi] ∧ Q (.bl (decide (lo ≤ i) && decide (i ≤ hi))) H
theorem scIsNumber : FnScope ["value", "least", "most"] ["value", "least", "most"] (defScope sIsNumber) := ⟨rfl, rfl, rfl, by decide +kernel, rfl, by decide +kernel, by decide +kernel⟩
theorem ok_isNumber {f : Addr} {fd : FuncData} (F : Fun K "is_number" "is_number" sIsNumber f fd) (M : Mg mg) : FnOk P w K mg base CX0 1 f fd ["value", "least", "most"] spIsNumber := by
  refine F.ok scIsNumber (fun vs H Q E h => ?_) (fun cdv A outer s H vs Q E hr h => ?_)
  · obtain ⟨i, lo, hi, rfl, _⟩ := h
    rfl
  · obtain ⟨i, lo, hi, rfl, k⟩ := h
    refine ⟨_, pss_one (ps_ret (pe_and (pe_callB call_isi (by rfl) M.isinstance boot_isinstance (pa_cons (pv 0) (pa_cons (pe_bltn (v := .ty "int") (by rfl) M.int boot_tInt rfl) pa_nil)))
      (pe_and (pe_not (pe_callB call_isi (by rfl) M.isinstance boot_isinstance (pa_cons (pv 0) (pa_cons (pe_bltn (v := .ty "bool") (by rfl) M.bool boot_tBool rfl) pa_nil))))
        (pe_one (pe_chain op_le op_le (pv 1) (pv 0) (pv 2)))))), ?_⟩
    refine ⟨_, rfl, _, _, _, _, true, rfl, .ty _, .base (.int i), kit_ty (by decide +kernel), true, rfl, iteT ?_⟩
    refine ⟨_, rfl, _, _, _, _, false, rfl, .ty _, .base (.int i), kit_ty (by decide +kernel), false, rfl, true, rfl, iteT ?_⟩
    refine ⟨_, rfl, _, rfl, lo, i, rfl, rfl, _, rfl, ?_⟩
    by_cases h1 : lo ≤ i
    · rw [decide_eq_true h1] at k ⊢
      exact iteT ⟨_, rfl, i, hi, rfl, rfl, by simpa using k⟩
    · rw [decide_eq_false h1] at k ⊢
      exact iteF (by simpa using k)
theorem lt_one (a b : Nat) : decide ([a] < [b]) = decide (a < b) := by
  rw [decide_eq_decide]
  simp [List.cons_lt_cons_iff]
/-! ### is_name of a text that is a name -/
def NameOk (z : Str) : Prop := 1 ≤ z.length ∧ z.length ≤ 8 ∧ ∀ c ∈ z.cps.toList, 97 ≤ c ∧ c ≤ 122
def spIsName : Sp := fun vs H Q _ => ∃ z : Str, vs = [.str z] ∧ NameOk z ∧ ∀ H', Same H H' → Q (.bl true) H'
theorem scIsName : FnScope ["value", "letter"] ["value"] (defScope sIsName) := ⟨rfl, rfl, rfl, by decide +kernel, rfl, by decide +kernel, by decide +kernel⟩
theorem ok_isName {f : Addr} {fd : FuncData} (F : Fun K "is_name" "is_name" sIsName f fd) (M : Mg mg) : FnOk P w K mg base CX0 1 f fd ["value"] spIsName := by
  obtain ⟨t8, M8⟩ := M.longestName
  refine F.ok scIsName (fun vs H Q E h => ?_) (fun cdv A outer s H vs Q E hr h => ?_)
  · obtain ⟨z, rfl, _⟩ := h
    rfl
  · obtain ⟨z, rfl, ⟨z1, z8, zc⟩, k⟩ := h
    have nd := scIsName.nd
    refine ⟨_, pss_cons (ps_if (PW.pt (pw_or (pt_not (pt_val (pe_callB call_isi (by rfl) M.isinstance boot_isinstance (pa_cons (pv 0) (pa_cons (pe_bltn (v := .ty "str") (by rfl) M.str boot_tStr rfl) pa_nil)))))
        (pw_or1 (pt_not (pt_chain op_le op_le pe_int (pe_callB call_len_str (by rfl) M.len boot_len (pa_cons (pv 0) pa_nil)) (pe_glob (v := .int 8) (by rfl) M8 ⟨_, rfl⟩)))))) (pss_one (ps_ret pe_bl)) pss_nil)
      (pss_one (ps_ret (pe_callB (cr_all rfl) (by rfl) M.all boot_all (pa_cons (pe_lc (own := [("letter", 1)]) (g := gName 1) (tt := tYes) (by rfl) nd (pi_str (pv 0)) (blkOk_by (N := ["value", "letter"]) (sc := defScope sIsName) (by decide +kernel))
        (fun _ _ _ _ _ => pg_name (i := 1) nd rfl (Or.inl rfl)) (fun _ _ _ _ _ => pts_nil) (fun _ _ _ _ _ => pe_chain op_le_str op_le_str pe_str (pv 1) pe_str)) pa_nil)))), ?_⟩
    have hz : z.length ≤ sizeLine := Nat.le_trans z8 (by decide)
    have e1 : decide ((1 : Int) ≤ (z.length : Nat)) = true := decide_eq_true (by omega)
    have e8 : decide (((z.length : Nat) : Int) ≤ 8) = true := decide_eq_true (by omega)
    refine ⟨_, rfl, _, _, _, _, true, rfl, .ty _, .base (.str z), kit_ty (by decide +kernel), true, rfl, iteF ?_⟩
    refine ⟨_, rfl, z, rfl, hz, 1, (z.length : Nat), rfl, rfl, _, rfl, ?_⟩
    rw [e1]
    refine iteT ⟨(z.length : Nat), 8, rfl, rfl, true, congrArg V.bl e8, iteF ?_⟩
    refine ⟨_, rfl, z, rfl, fun D hD => lc_it walk_str (fun i H1 => (∀ b o, H b = some o → H1 b = some o) ∧ H1 D = some (.lst (List.replicate i (.bl true)))) ⟨fun b o e => by rw [upd_ne (ne_of_none e hD)]; exact e, upd_same⟩ (fun _ _ _ _ => True.intro) ?_ ?_⟩
    · rintro i x H1 H2 hi ⟨hk, hl⟩ ⟨e, c, hc, ex⟩
      subst e ex
      have hm : c ∈ z.cps.toList := by
        rw [Array.mem_toList_iff]
        exact Array.mem_of_getElem? hc
      have g1 : (!decide ((⟨#[c]⟩ : Str).cps.toList < ("a" : Str).cps.toList)) = true := by
        have e2 : ("a" : Str).cps.toList = [97] := by decide +kernel
        rw [e2]
        have := (zc c hm).1
        show (!decide (([c] : List Nat) < [97])) = true
        rw [lt_one, decide_eq_false (by omega)]
        rfl
      have g2 : (!decide (("z" : Str).cps.toList < (⟨#[c]⟩ : Str).cps.toList)) = true := by
        have e2 : ("z" : Str).cps.toList = [122] := by decide +kernel
        rw [e2]
        have := (zc c hm).2
        show (!decide (([122] : List Nat) < [c])) = true
        rw [lt_one, decide_eq_false (by omega)]
        rfl
      refine ⟨rfl, ?_⟩
      refine yes_of ?_
      refine ⟨_, rfl, _, _, rfl, rfl, true, congrArg V.bl g1, ?_⟩
      refine iteT ?_
      refine ⟨_, _, rfl, rfl, ?_⟩
      rw [g2]
      refine ⟨_, hl, ?_, fun b o e => by rw [upd_ne (ne_of_none e hD)]; exact hk b o e, ?_⟩
      · rw [List.length_replicate]
        have : z.cps.size ≤ 8 := z8
        exact Nat.lt_of_lt_of_le (Nat.lt_of_lt_of_le hi this) (by decide)
      · rw [upd_same, ← List.replicate_succ']
    · rintro H1 ⟨hk, hl⟩
      refine ⟨D, List.replicate z.cps.size true, rfl, ?_, ?_⟩
      · rw [List.map_replicate]
        exact SqL.of hl
      · have e3 : (List.replicate z.cps.size true).all id = true := by simp
        rw [e3]
        exact k H1 hk
end
end Sl

set_option Elab.async false
set_option linter.all false
set_option maxRecDepth 100000
set_option maxHeartbeats 1000000
namespace Sl
open PySem PySem.Spec L2 OwnR
/-- a def of the module, as callers want it -/
structure Fb (K : PySem.W.Frag) (mg : Str → Option Value) (x : Str) (st : Stmt) (ps : List Str) (f : Addr) (fd : FuncData) : Prop where
  fn : Fun K x x st f fd
  at_ : mg x = some (.ref f)
  bd : Binds K fd ps []
section
variable {P : Program} {w : World} {K : PySem.W.Frag} {mg : Str → Option Value} {base : Heap}
/-! ### is_car of a tuple that is a car -/
structure Car where
  name : Str
  start : Int
  pace : Int
def Car.vs (c : Car) : List V := [.str c.name, .int c.start, .int c.pace]
structure Car.Ok (c : Car) : Prop where
  nm : NameOk c.name
  s0 : 0 ≤ c.start
  s1 : c.start ≤ 1000000
  p0 : 1 ≤ c.pace
  p1 : c.pace ≤ 60
def spIsCar : Sp := fun vs H Q _ => ∃ (t : Addr) (c : Car), vs = [.ref t] ∧ H t = some (.tup c.vs) ∧ c.Ok ∧ ∀ H', Same H H' → Q (.bl true) H'
theorem scIsCar : FnScope ["value", "name", "start", "pace"] ["value"] (defScope sIsCar) := ⟨rfl, rfl, rfl, by decide +kernel, rfl, by decide +kernel, by decide +kernel⟩
theorem ok_isCar {f fN fB : Addr} {fd dN dB : FuncData} (F : Fb K mg "is_car" sIsCar ["value"] f fd) (M : Mg mg) (BN : Fb K mg "is_name" sIsName ["value"] fN dN) (BB : Fb K mg "is_number" sIsNumber ["value", "least", "most"] fB dB)
    (GN : FnOk P w K mg base CX0 1 fN dN ["value"] spIsName) (GB : FnOk P w K mg base CX0 1 fB dB ["value", "least", "most"] spIsNumber) : FnOk P w K mg base CX0 2 f fd ["value"] spIsCar := by
  obtain ⟨t1, M1⟩ := M.latestStart
  obtain ⟨t2, M2⟩ := M.slowestPace
  refine F.fn.ok scIsCar (fun vs H Q E h => ?_) (fun cdv A outer s H vs Q E hr h => ?_)
  · obtain ⟨t, c, rfl, _⟩ := h
    rfl
  · obtain ⟨t, c, rfl, ht, C, k⟩ := h
    have nd := scIsCar.nd
    refine ⟨_, pss_cons (ps_if (PW.pt (pw_or (pt_not (pt_val (pe_callB call_isi (by rfl) M.isinstance boot_isinstance (pa_cons (pv 0) (pa_cons (pe_bltn (v := .ty "tuple") (by rfl) M.tuple boot_tTuple rfl) pa_nil)))))
        (pw_or1 (pt_cmpR op_ne (pe_callB call_len_seq (by rfl) M.len boot_len (pa_cons (pv 0) pa_nil)) pe_int (nomark _))))) (pss_one (ps_ret pe_bl)) pss_nil)
      (pss_cons (ps_asg (pv 0) (pg_tup (by rfl) (pgs_cons (pg_name (i := 1) nd rfl (.inl rfl)) (pgs_cons (pg_name (i := 2) nd rfl (.inl rfl)) (pgs_cons (pg_name (i := 3) nd rfl (.inl rfl)) pgs_nil)))))
      (pss_one (ps_ret (pe_and (pe_call GN hr (by rfl) BN.at_ BN.fn.kp BN.bd .nil pass0 (pa_cons (pv 1) pa_nil))
        (pe_and (pe_call GB hr (by rfl) BB.at_ BB.fn.kp BB.bd .nil pass0 (pa_cons (pv 2) (pa_cons pe_int (pa_cons (pe_glob (v := .int 1000000) (by rfl) M1 ⟨_, rfl⟩) pa_nil))))
          (pe_one (pe_call GB hr (by rfl) BB.at_ BB.fn.kp BB.bd .nil pass0 (pa_cons (pv 3) (pa_cons pe_int (pa_cons (pe_glob (v := .int 60) (by rfl) M2 ⟨_, rfl⟩) pa_nil)))))))))), ?_⟩
    refine ⟨_, rfl, _, _, _, _, true, rfl, .ty _, .base (.tup ht), kit_ty (by decide +kernel), true, rfl, iteF ?_⟩
    refine ⟨_, rfl, t, _, rfl, .inr (SqT.of ht), rfl, false, rfl, iteF ?_⟩
    refine ⟨_, rfl, t, c.vs, rfl, SqT.of ht, rfl, _, _, rfl, _, _, rfl, _, _, rfl, rfl, ?_⟩
    refine ⟨_, rfl, c.name, rfl, C.nm, fun H1 s1 => ⟨true, rfl, iteT ?_⟩⟩
    refine ⟨_, rfl, c.start, 0, 1000000, rfl, true, ?_, iteT ?_⟩
    · rw [decide_eq_true C.s0, decide_eq_true C.s1]
      rfl
    refine ⟨_, rfl, c.pace, 1, 60, rfl, ?_⟩
    rw [decide_eq_true C.p0, decide_eq_true C.p1]
    exact k H1 s1
/-! ### check_cars of a tuple of cars -/
def CarsAt (H : Hp) (a : Addr) (cars : List Car) : Prop := ∃ ts : List Addr, H a = some (.tup (ts.map V.ref)) ∧ ts.length = cars.length ∧ ∀ (i : Nat) (t : Addr) (c : Car), ts[i]? = some t → cars[i]? = some c → H t = some (.tup c.vs)
structure CarsOk (cars : List Car) : Prop where
  all : ∀ c ∈ cars, c.Ok
  nd : (cars.map (·.name)).Nodup
  few : cars.length ≤ 10
theorem CarsAt.same {H H' : Hp} {a : Addr} {cars : List Car} (h : CarsAt H a cars) (e : Same H H') : CarsAt H' a cars := by
  obtain ⟨ts, h1, h2, h3⟩ := h
  exact ⟨ts, e _ _ h1, h2, fun i t c e1 e2 => e _ _ (h3 i t c e1 e2)⟩
end
end Sl

set_option Elab.async false
set_option linter.all false
set_option maxRecDepth 100000
set_option maxHeartbeats 2000000
namespace OwnR
open PySem PySem.Spec PyProof.Rows L2
/-! ### enumerate(t), t a tuple -/
abbrev enumObj (n : Nat) : Obj := { cls := .type "enumerate", data := .fields #[.none, .bool false, .ref n, rawInt 0, .none, .none] }
theorem enum_make {v : Value} {o : Obj} {G : Heap → Prop} (B : Begins v o G) : Meets (Builtin.«enumerate.__new__» ⟨[.type "enumerate", v], []⟩) (fun _ R s => G s.heap ∧ R (.ok (.ret (.ref (s.heap.push o).objs.size))) { s with heap := (s.heap.push o).push (enumObj s.heap.objs.size) }) := by
  refine .of_wp fun prog w A R s hs => ?_
  obtain ⟨hp, g, d, tk, os⟩ := s
  obtain ⟨hG, hR⟩ := hs
  have isE := sub_enumerate
  have it1 : ∀ {A' : Around} {E' Q' : Value → Shared → Prop}, Q' (.ref hp.objs.size) ⟨hp.push o, g, d, tk, os⟩ → wpAny (model prog w) A' (pyIter v) (fun a b => Q' a b) (fun a b => E' a b) ⟨hp, g, d, tk, os⟩ := fun q => B.iter prog w _ _ ⟨hp, g, d, tk, os⟩ _ hG q
  wp_walk using it1
  refine wpAny_stack_any fun st => wpAny_pure ?_
  split
  · rename_i c _ _ _ _ _
    cases (c == Value.type "enumerate") <;> (wp_walk using it1; exact ⟨_, rfl, hR⟩)
  · wp_walk using it1
    exact ⟨_, rfl, hR⟩
section
variable {prog : Program} {w : World} {A : Around} {E : Value → Shared → Prop} {s : Shared}
theorem enum_tuple {t : Addr} {items : Array Value} {Q : Value → Shared → Prop} (ht : s.heap.IsTuple t items)
    (h : ∀ h', IsEnum h' (s.heap.objs.size + 1) s.heap.objs.size 0 .none → h'.IsTupleIter s.heap.objs.size t 0 → (∀ b o, s.heap.get? b = some o → h'.get? b = some o) → Q (.ref (s.heap.objs.size + 1)) { s with heap := h' }) :
    wpAny (model prog w) A (call (.type "enumerate") [.ref t]) Q E s := by
  have sz : ∀ o : Obj, (s.heap.push o).objs.size = s.heap.objs.size + 1 := fun o => Heap.size_push ..
  refine callType_new F.called_enumerate (by decide) (F.typeCall_enumerate_1 _) (F.newCall_enumerate_1 _) (fun _ => F.args_object_init_2 _ _) F.entry_enumerate_new (enum_make (begins_tuple t items)) ⟨ht, ?_⟩
  have he : ((s.heap.push { cls := .type "tuple_iterator", data := .fields #[.ref t, .int 0 0] }).push (enumObj s.heap.objs.size)).get? (s.heap.objs.size + 1) = some (enumObj s.heap.objs.size) := by
    have q := Heap.get?_push_size (s.heap.push { cls := .type "tuple_iterator", data := .fields #[.ref t, .int 0 0] }) (o := enumObj s.heap.objs.size) rfl
    rw [sz] at q
    exact q
  show _ ∧ _
  rw [sz]
  exact ⟨⟨_, he, rfl⟩, h _ he ⟨_, Heap.get?_push_of_some _ (Heap.get?_push_size _ rfl), rfl, rfl⟩ fun b o x => Heap.get?_push_of_some _ (Heap.get?_push_of_some _ x)⟩
end
/-- the tuple at a as it stands at each turn, each item in a new pair -/
def IteT (K : PySem.W.Frag) (a : Addr) (N : Nat) : It :=
  ⟨fun i H => ∃ (xs : List V) (x : V), SqT K H a xs ∧ xs[i]? = some x ∧ xs.length = N,
   fun i H v H' => ∃ T x, v = .ref T ∧ H T = none ∧ H' = upd H T (.tup [.int (i : Nat), x]) ∧ ∀ xs, SqT K H a xs → xs[i]? = some x,
   fun i H => ∃ xs : List V, SqT K H a xs ∧ xs.length ≤ i ∧ xs.length = N⟩
theorem tup_ne {h : Heap} {a it : Addr} {items : Array Value} {i : Nat} (p : h.IsTuple a items) (q : h.IsTupleIter it a i) : a ≠ it := by
  intro e
  obtain ⟨o, ho, hc, _⟩ := p
  obtain ⟨o', ho', hc', _⟩ := q
  rw [e, ho'] at ho
  cases ho
  rw [hc'] at hc
  injection hc with z
  exact absurd z (by decide)
theorem turn_enumT {P : Program} {w : World} {K : PySem.W.Frag} {elts : List Expr} {kk : Nat} {tpos : Pos} (a e it : Addr) (N : Nat) (nea : e ≠ a) :
    Turn P w K (.Tuple elts kk tpos) (IteT K a N) [e, it] e (fun i h => (∃ old, IsEnum h e it ((i : Nat) : Int) old) ∧ h.IsTupleIter it a i ∧ e ≠ it ∧ i ≤ N) where
  mem := List.mem_cons_self
  obj := fun i h st b hb => by
    obtain ⟨⟨old, he⟩, ⟨o, ho, hc, hd⟩, _⟩ := st
    rcases List.mem_cons.mp hb with z | z
    · exact ⟨_, by rw [z]; exact he, fun v q => by cases q⟩
    · exact ⟨o, by rw [List.mem_singleton.mp z]; exact ho, fun v q => by rw [hd] at q; cases q⟩
  keep := fun i h h' st k => by
    obtain ⟨⟨old, he⟩, ⟨o, ho, r⟩, hne, le⟩ := st
    exact ⟨⟨old, k e (by simp) _ he⟩, ⟨o, k it (by simp) o ho, r⟩, hne, le⟩
  item := by
    intro X hP hw hK hc i pins s σ H E I hf st hg
    subst hP hw hK
    obtain ⟨⟨old, he⟩, hit, hne, le⟩ := st
    obtain ⟨xs, x, hq, hx, eN⟩ := hg
    obtain ⟨its, rv, p, hz⟩ := I.tuple hq
    obtain ⟨u, hu, ru⟩ := rv.get hx
    have lo : i < its.toArray.size := by
      rw [List.size_toArray]
      exact (List.getElem?_eq_some_iff.mp hu).1
    have hel : e < s.heap.objs.size := Heap.lt_size he
    have hil : it < s.heap.objs.size := by
      obtain ⟨_, q, _⟩ := hit
      exact Heap.lt_size q
    have hd : X.A.in1.handled = none := I.ok.hd hc
    have D := Draws.tuple (prog := X.prog) (w := X.w) hd it a (tup_ne p hit) its.toArray
    refine wpAny_pyNext_enum_itemC D he ⟨hit, p⟩ lo hne (by simp [hne, nea]) fun y h' tk hy ho st2 hT hsz hk => ⟨_, rfl, wpAny_letOwnedTupleGo_enum (s := { s with heap := h', toks := tk + 1 }) ho fun h2 he2 sb => ?_⟩
    have ey : y = u := by
      have hy : its.toArray[i]? = some y := hy
      have : its[i]? = some y := by simpa using hy
      rw [hu] at this
      exact (Option.some.inj this).symm
    subst ey
    have hT2 : h2.get? s.heap.objs.size = some { cls := .type "tuple", data := .seq #[.int i tk, y] } := (sb.2 _ (Nat.ne_of_gt hel)).trans hT
    have new : ObjOk X.prog X.w (upd H s.heap.objs.size (.tup [.int (i : Nat), x])) h2 s.heap.objs.size (.tup [.int (i : Nat), x]) :=
      ⟨by show 2 ≤ sizeLine; decide, [.int i tk, y], .cons ⟨_, rfl⟩ (.cons ru .nil), ⟨_, hT2, rfl, _, rfl⟩⟩
    have J : Inv X pins σ (upd H s.heap.objs.size (.tup [.int (i : Nat), x])) { s with heap := h2, toks := tk + 1 } :=
      I.turnedNew (ch := [e, it]) (fun b ob hb q => (sb.2 b (fun z => hb (by simp [z]))).trans (hk b ob (fun z => hb (by simp [z])) (fun z => hb (by simp [z])) q)) hf (Nat.le_refl _) new
    have hi2 : h2.IsTupleIter it a (i + 1) := by
      obtain ⟨⟨o, h1, h3⟩, _⟩ := st2
      exact ⟨o, (sb.2 it (Ne.symm hne)).trans h1, h3⟩
    refine ⟨.ref s.heap.objs.size, _, J, rfl, ⟨_, x, rfl, I.hok.fresh (Nat.le_refl _), rfl, fun ys hy => by rw [I.tuple_inj hy hq]; exact hx⟩, ⟨⟨y, ?_⟩, hi2, hne, by have := (List.getElem?_eq_some_iff.mp hx).1; omega⟩, fun b hb => ?_⟩
    · rw [show ((i + 1 : Nat) : Int) = (i : Int) + 1 by omega]
      exact he2
    · have hb' : b < s.heap.objs.size := by
        rcases List.mem_cons.mp hb with z | z
        · rw [z]; exact hel
        · rw [List.mem_singleton.mp z]; exact hil
      rw [upd_ne (Nat.ne_of_lt hb')]
      exact (hf b hb).1
  done := by
    intro X hP hw hK hc i pins s σ H E I hf st hg
    subst hP hw hK
    obtain ⟨⟨old, he⟩, hit, hne, le⟩ := st
    obtain ⟨xs, hq, hx, eN⟩ := hg
    obtain ⟨its, rv, p, hz⟩ := I.tuple hq
    obtain ⟨f0, f1, f2, f3, f4, f5⟩ := hf it (by simp)
    have hl := rv.length
    have hd : X.A.in1.handled = none := I.ok.hd hc
    have D := Draws.tuple (prog := X.prog) (w := X.w) hd it a (tup_ne p hit) its.toArray
    have ei : i = its.toArray.size := by
      rw [List.size_toArray]
      omega
    rw [ei] at hit he
    exact wpAny_pyNext_enum_endD D he ⟨hit, p⟩ fun h' eb => ⟨rfl, I.turned (t' := s.toks) (fun b o hb q => eb b o hb q) f0 f1 f3 f4 f5⟩
  self := fun A i s Q E st h => let ⟨⟨_, he⟩, _⟩ := st; wpAny_pyIter_enum he h
def iEnumT (K : PySem.W.Frag) (ta : TA) : TI := fun σ H R => ta σ H fun vs H1 => ∃ a xs, vs = [.ref a] ∧ SqT K H1 a xs ∧ R (IteT K a xs.length) H1
theorem pi_enumT {X : Cx} {e : Expr} {ta : TA} {p pos tpos : Pos} {elts : List Expr} {kk : Nat} (hg : Gl X "enumerate") (hm : X.mg "enumerate" = none) (ha : PA X [e] ta) (hs : starEach [e] X.env = [(false, eval e X.env)] := by rfl) :
    PI X (.Tuple elts kk tpos) (.Call (.Name "enumerate" p) [e] [] pos) (iEnumT X.K ta) := by
  refine ⟨fun pins s σ H R I h => ?_⟩
  refine Call_ (ld_blt I hg hm boot_enumerate (PyProof.Rows.callWith_type1 (thn (ha.run pos pins s σ H _ I h) fun us s1 ⟨vs, H1, I1, r1, a, xs, ex, hq, q⟩ => ?_) hs rfl))
  subst ex
  obtain ⟨u, rfl, ru⟩ := r1.one
  cases (show u = Value.ref a from ru)
  obtain ⟨its, rv, p', hz⟩ := I1.tuple hq
  refine enum_tuple (items := its.toArray) p' fun h' he hit hk => wpAny_pyIter_enum he ?_
  have I2 : Inv X pins σ H1 { s1 with heap := h' } := I1.kept (t' := s1.toks) hk
  have la : a < s1.heap.objs.size := by
    obtain ⟨o, ho, _⟩ := p'
    exact Heap.lt_size ho
  refine ⟨s1.heap.objs.size + 1, [s1.heap.objs.size + 1, s1.heap.objs.size], _, _, H1, rfl, I2, turn_enumT a (s1.heap.objs.size + 1) s1.heap.objs.size xs.length (Nat.ne_of_gt (Nat.lt_succ_of_lt la)), ⟨⟨.none, he⟩, hit, Nat.succ_ne_self _, Nat.zero_le _⟩, fun b hb => ?_, q⟩
  have hle : s1.heap.objs.size ≤ b := by
    rcases List.mem_cons.mp hb with z | z
    · rw [z]
      exact Nat.le_succ _
    · rw [List.mem_singleton.mp z]
      exact Nat.le_refl _
  exact I1.fpOk hle (I1.hok.fresh hle)
theorem walk_enumT {K : PySem.W.Frag} {a : Addr} {xs : List V} : Walk (IteT K a xs.length) xs.length (fun H => SqT K H a xs) (YPair (fun i => some (.int (i : Nat))) fun i => xs[i]?) :=
  ⟨fun i _ hi q => ⟨xs, xs[i], q, by simp [hi], rfl⟩, fun _ q => ⟨xs, q, Nat.le_refl _, rfl⟩, fun i H x H' hi q y => by
    obtain ⟨T, z, e1, e2, e3, e4⟩ := y
    exact ⟨T, .int (i : Nat), z, e1, e2, e3, rfl, e4 xs q⟩⟩
end OwnR

set_option Elab.async false
set_option linter.all false
set_option maxRecDepth 100000
set_option maxHeartbeats 1000000
namespace Sl
open PySem PySem.Spec L2 OwnR
theorem eqV_str (a b : Str) : eqV (.str a) (.str b) = decide (a = b) := by
  show (a == b) = decide (a = b)
  by_cases h : a = b
  · rw [h]; simp
  · rw [decide_eq_false h]; simpa using h
theorem inV_str (x : Str) (l : List Str) : inV (.str x) (l.map V.str) = decide (x ∈ l) := by
  unfold inV
  induction l with
  | nil => simp
  | cons y r ih =>
    rw [List.map_cons, List.any_cons, ih, eqV_str]
    by_cases h : y = x
    · subst h; simp
    · have h2 : ¬ x = y := fun z => h z.symm
      simp [h, h2]
theorem tk1 {α : Type} {l : List α} {i : Nat} {x : α} (h : l[i]? = some x) : l.take (i + 1) = l.take i ++ [x] := by
  rw [List.take_add_one, h]
  rfl
theorem flat_strs (l : List Str) : (l.map V.str).all flatV = true := by
  induction l with
  | nil => rfl
  | cons y r ih => rw [List.map_cons, List.all_cons, ih]; rfl
section
variable {P : Program} {w : World} {K : PySem.W.Frag} {mg : Str → Option Value} {base : Heap}
def spCheckCars : Sp := fun vs H Q _ => ∃ (a : Addr) (cars : List Car), vs = [.ref a] ∧ CarsAt H a cars ∧ CarsOk cars ∧ ∀ H', Same H H' → Q .non H'
theorem scCheckCars : FnScope ["cars", "names", "index", "car"] ["cars"] (defScope sCheckCars) := ⟨rfl, rfl, rfl, by decide +kernel, rfl, by decide +kernel, by decide +kernel⟩
theorem ok_checkCars {f fC : Addr} {fd dC : FuncData} (F : Fb K mg "check_cars" sCheckCars ["cars"] f fd) (M : Mg mg) (BC : Fb K mg "is_car" sIsCar ["value"] fC dC)
    (GC : FnOk P w K mg base CX0 2 fC dC ["value"] spIsCar) : FnOk P w K mg base CX0 3 f fd ["cars"] spCheckCars := by
  obtain ⟨t1, M1⟩ := M.mostCars
  refine F.fn.ok scCheckCars (fun vs H Q E h => ?_) (fun cdv A outer s H vs Q E hr h => ?_)
  · obtain ⟨t, c, rfl, _⟩ := h
    rfl
  · obtain ⟨a, cars, rfl, ⟨ts, ha, hlen, hcar⟩, C, k⟩ := h
    have nd := scCheckCars.nd
    refine ⟨_, pss_cons (ps_if (pt_not (pt_val (pe_callB call_isi (by rfl) M.isinstance boot_isinstance (pa_cons (pv 0) (pa_cons (pe_bltn (v := .ty "tuple") (by rfl) M.tuple boot_tTuple rfl) pa_nil))))) (pss_one ps_never) pss_nil)
      (pss_cons (ps_set (i := 1) nd rfl (.inl rfl) (pe_lst pa_nil))
      (pss_one (ps_for PassesOwn.never rfl (pi_enumT (by rfl) M.enumerate (pa_cons (pv 0) pa_nil)) (pg_tup rfl (pgs_cons (pg_name (i := 2) nd rfl (.inl rfl)) (pgs_cons (pg_name (i := 3) nd rfl (.inl rfl)) pgs_nil)))
        (pss_cons (ps_if (PW.pt (pw_or (pt_cmpR op_eq (pv 2) (pe_glob (v := .int 10) (by rfl) M1 ⟨_, rfl⟩) (nomark _)) (pw_or (pt_not (pt_val (pe_call GC hr (by rfl) BC.at_ BC.fn.kp BC.bd .nil pass0 (pa_cons (pv 3) pa_nil))))
            (pw_or1 (pt_cmpR op_in_seq (pe_ix ix_tup (pv 3) pe_int (fun _ _ => rfl)) (pv 1) (by rfl)))))) (pss_one ps_never) pss_nil)
          (pss_one (ps_expr (pe_bm PySem.F.plainAttrs_list PySem.F.slot_list_append PySem.F.type_list_append mt_append (pv 1) (pa_cons (pe_ix ix_tup (pv 3) pe_int (fun _ _ => rfl)) pa_nil)))))))), ?_⟩
    refine ⟨_, rfl, _, _, _, _, true, rfl, .ty _, .base (.tup ha), kit_ty (by decide +kernel), true, rfl, iteF ?_⟩
    refine ⟨Nat.zero_le _, fun l hl => ?_⟩
    have hts : (ts.map V.ref).length = cars.length := by rw [List.length_map, hlen]
    refine ⟨_, rfl, a, ts.map V.ref, rfl, SqT.of (by rw [upd_ne (ne_of_none ha hl)]; exact ha), for_it walk_enumT
      (fun i σ H1 => ∃ v2 v3, σ = [some (.ref a), some (.ref l), v2, v3] ∧ Same H H1 ∧ H1 l = some (.lst (((cars.take i).map (·.name)).map V.str)))
      ⟨none, none, rfl, fun b o e => by rw [upd_ne (ne_of_none e hl)]; exact e, upd_same⟩ (fun i σ H1 _ ⟨_, _, _, s1, _⟩ => SqT.of (s1 _ _ ha)) ?_ ?_⟩
    · rintro i x σ H1 H2 hi ⟨v2, v3, rfl, s1, hL⟩ ⟨T, x1, x2, rfl, hT, rfl, e1, e2⟩
      cases e1
      have hic : i < cars.length := by rw [hts] at hi; exact hi
      obtain ⟨t, ht, rfl⟩ : ∃ t, ts[i]? = some t ∧ x2 = V.ref t := by
        have e2 : (ts.map V.ref)[i]? = some x2 := e2
        rw [List.getElem?_map] at e2
        obtain ⟨t, z1, z2⟩ := Option.map_eq_some_iff.mp e2
        exact ⟨t, z1, z2.symm⟩
      have hc : cars[i]? = some cars[i] := List.getElem?_eq_getElem hic
      have hct := hcar i t _ ht hc
      have sT : Same H1 (upd H1 T (.tup [.int (i : Nat), .ref t])) := fun b o e => by rw [upd_ne (ne_of_none e hT)]; exact e
      have h2 := sT _ _ (s1 _ _ hct)
      have C0 := C.all _ (List.getElem_mem hic)
      refine ⟨T, _, rfl, SqT.of upd_same, rfl, _, _, rfl, _, _, rfl, rfl, ?_⟩
      refine ⟨_, rfl, rfl, _, rfl, ?_⟩
      have ne10 : ¬ (V.int (i : Nat) = V.int 10) := fun z => by
        injection z with z
        have := C.few
        omega
      rw [decide_eq_false ne10]
      refine iteF ?_
      refine ⟨_, rfl, t, cars[i], rfl, h2, C0, fun H3 s3 => ⟨true, rfl, iteF ?_⟩⟩
      refine ⟨_, rfl, t, _, 0, .str cars[i].name, rfl, rfl, SqT.of (s3 _ _ h2), rfl, _, rfl, l, _, rfl, .inl (SqL.of (s3 _ _ (sT _ _ hL))), rfl, flat_strs _, false, ?_, iteF ?_⟩
      · rw [inV_str]
        have : ¬ cars[i].name ∈ (cars.take i).map (·.name) := fun hm => by
          obtain ⟨j, hj⟩ := List.mem_iff_getElem?.mp hm
          rw [List.getElem?_map] at hj
          obtain ⟨c', hc', en⟩ := Option.map_eq_some_iff.mp hj
          have hj2 : j < i := by
            have := (List.getElem?_eq_some_iff.mp hc').1
            rw [List.length_take] at this
            omega
          rw [List.getElem?_take_of_lt hj2] at hc'
          have a1 : (cars.map (·.name))[j]? = some cars[i].name := by rw [List.getElem?_map, hc']; exact congrArg some en
          have a2 : (cars.map (·.name))[i]? = some cars[i].name := by rw [List.getElem?_map, hc]; rfl
          have := nd_ix C.nd a1 a2
          omega
        rw [decide_eq_false this]
        rfl
      · have hl3 := s3 _ _ (sT _ _ hL)
        refine ⟨_, rfl, .inl ⟨rfl, _, SqL.of hl3⟩, _, rfl, t, _, 0, .str cars[i].name, rfl, rfl, SqT.of (s3 _ _ h2), rfl, l, _, _, rfl, rfl, hl3, ?_, ?_⟩
        · rw [List.length_map, List.length_map, List.length_take]
          have := C.few
          exact small1000 (by omega)
        · refine ⟨_, _, rfl, fun b o e => ?_, ?_⟩
          · rw [upd_ne (ne_of_none e hl)]
            exact s3 _ _ (sT _ _ (s1 _ _ e))
          · rw [upd_same, tk1 hc, List.map_append, List.map_append]
            rfl
    · rintro σ H1 ⟨v2, v3, rfl, s1, hL⟩
      exact k H1 s1
end
end Sl

set_option Elab.async false
set_option linter.all false
set_option maxRecDepth 100000
set_option maxHeartbeats 1000000
namespace Sl
open PySem PySem.Spec L2 OwnR LamX
/-- a def whose code object's address is known -/
structure FunC (K : PySem.W.Frag) (x qual : Str) (st : Stmt) (f : Addr) (fd : FuncData) (c : Addr) : Prop where
  ex : ∃ (oc : Value) (od : Option Addr) (kV doc pm : Value) (an : Option Addr) (ct : Value) (osl : Array (Option Value)),
    fd = PySem.W.fnOf x qual (defArgs st) (defBody st) (defScope st) .none kV doc pm an (.ref c) ct ∧ K.lookup f = some ⟨oc, od, .func fd, osl⟩ ∧ PySem.W.codeIn K (.ref c) qual = true
  kp : PySem.W.keepIn K (.ref f) = true
section
variable {P : Program} {w : World} {K : PySem.W.Frag} {mg : Str → Option Value} {base : Heap}
theorem FunC.ok {x qual : Str} {st : Stmt} {f c : Addr} {fd : FuncData} {N ps : List Str} {k : Nat} {sp : Sp} (F : FunC K x qual st f fd c) (S : FnScope N ps (defScope st)) (len : ∀ vs H Q E, sp vs H Q E → vs.length = ps.length)
    (hbody : ∀ (A : Around) (outer : List Env) (s : Shared) (H : Hp) (vs : List V) (Q : VK) (E : XK), Room k (A.deeper (PyProof.Rows.envOfC qual (defScope st) s.heap.objs.size f (.ref c))) → sp vs H Q E →
      ∃ t, PSs (cxOf CX0 P w K mg base N qual (defScope st) f (.ref c) A outer s H E).nox (defBody st) t ∧ t { nx := fun _ H' => Q .non H', rt := Q } (start N vs) H) : FnOk P w K mg base CX0 (k + 1) f fd ps sp := by
  obtain ⟨oc, od, kV, doc, pm, an, ct, osl, rfl, lk, hcd⟩ := F.ex
  refine fn_of lk hcd S len fun A outer s H vs Q E hr hsp => ?_
  obtain ⟨t, h, q⟩ := hbody A outer s H vs Q E hr hsp
  exact ⟨t, h.nox, q⟩
structure FbC (K : PySem.W.Frag) (mg : Str → Option Value) (x : Str) (st : Stmt) (ps : List Str) (f : Addr) (fd : FuncData) (c : Addr) : Prop where
  fn : FunC K x x st f fd c
  at_ : mg x = some (.ref f)
  bd : Binds K fd ps []
/-- what stands behind a step that may have made code objects -/
theorem ExtN.same {H H' : Hp} (e : Same H H') : ExtN H H' := fun b o h _ => e b o h
theorem ExtN.lst {H H' : Hp} (e : ExtN H H') {a : Addr} {xs : List V} (h : H a = some (.lst xs)) : H' a = some (.lst xs) := e _ _ h (fun _ z => nomatch z)
theorem ExtN.tup {H H' : Hp} (e : ExtN H H') {a : Addr} {xs : List V} (h : H a = some (.tup xs)) : H' a = some (.tup xs) := e _ _ h (fun _ z => nomatch z)
theorem ExtN.dK {H H' : Hp} (e : ExtN H H') {a : Addr} {xs : List (Key × V)} (h : H a = some (.dK xs)) : H' a = some (.dK xs) := e _ _ h (fun _ z => nomatch z)
theorem ExtN.ins {H H' : Hp} (e : ExtN H H') {a C d : Addr} {xs : List (Str × V)} (h : H a = some (.ins C d xs)) : H' a = some (.ins C d xs) := e _ _ h (fun _ z => nomatch z)
theorem ExtN.sqT {H H' : Hp} (e : ExtN H H') {a : Addr} {xs : List V} (h : SqT K H a xs) : SqT K H' a xs := by
  rcases h with (h | ⟨o, h⟩) | h
  · exact .inl (.inl (e _ _ h fun _ z => nomatch z))
  · exact .inl (.inr ⟨o, e _ _ h fun _ z => nomatch z⟩)
  · exact .inr h
theorem ExtN.sqL {H H' : Hp} (e : ExtN H H') {a : Addr} {xs : List V} (h : SqL K H a xs) : SqL K H' a xs := by
  rcases h with (h | ⟨o, h⟩) | h
  · exact .inl (.inl (e _ _ h fun _ z => nomatch z))
  · exact .inl (.inr ⟨o, e _ _ h fun _ z => nomatch z⟩)
  · exact .inr h
theorem CarsAt.ext {H H' : Hp} {a : Addr} {cars : List Car} (h : CarsAt H a cars) (e : ExtN H H') : CarsAt H' a cars := by
  obtain ⟨ts, h1, h2, h3⟩ := h
  exact ⟨ts, ExtN.tup e h1, h2, fun i t c e1 e2 => ExtN.tup e (h3 i t c e1 e2)⟩
/-! ### _in_order -/
/-- nothing that was tracked, but tables, stands at D -/
def New (H : Hp) (D : Addr) : Prop := ∀ b o, H b = some o → (∀ ps, o ≠ .tbl ps) → b ≠ D
theorem New.of {H : Hp} {D : Addr} (h : H D = none) : New H D := fun b o e _ => ne_of_none e h
theorem New.ext {H H' : Hp} {D : Addr} (e : ExtN H H') (h : New H' D) : New H D := fun b o x n => h b o (e b o x n) n
theorem zip_self (tk : Str → Int) : ∀ names : List Str, (names.map tk).zip (names.map V.str) = (names.map fun n => (tk n, n)).map fun q => (q.1, V.str q.2)
  | [] => rfl
  | n :: r => by
    simp only [List.map_cons, List.zip_cons_cons]
    rw [zip_self tk r]
def qInOrder : Str := ("_in_order" : Str) ++ (".<locals>." : Str) ++ ("<lambda>" : Str)
def spInOrder (K : PySem.W.Frag) (T : List (Addr × Str)) : Sp := fun vs H Q _ => ∃ (p d : Addr) (names : List Str) (kvs : List (Key × V)) (tk : Str → Int), vs = [.ref p, .ref d] ∧ SqL K H p (names.map V.str) ∧ H d = some (.dK kvs) ∧
  (∀ n ∈ names, valV kvs (.inr n) = some (.int (tk n))) ∧ Tabs T H ∧ ∀ H' D, ExtN H H' → Tabs T H' → New H D → H' D = some (.lst ((sortBy tk names).map V.str)) → Q (.ref D) H'
theorem scInOrder : FnScope ["names", "ticks"] ["names", "ticks"] (defScope sInOrder) := ⟨rfl, rfl, rfl, by decide +kernel, rfl, by decide +kernel, by decide +kernel⟩
theorem ok_inOrder {f c Pt : Addr} {fd : FuncData} {T : List (Addr × Str)} (F : FbC K mg "_in_order" sInOrder ["names", "ticks"] f fd c) (M : Mg mg) (TB : TabB base mg c Pt) (hm : (Pt, qInOrder) ∈ T) (hu : ∀ p ∈ T, p.1 = Pt → p.2 = qInOrder) :
    FnOk P w K mg base CX0 3 f fd ["names", "ticks"] (spInOrder K T) := by
  refine F.fn.ok scInOrder (fun vs H Q E h => ?_) (fun A outer s H vs Q E hr h => ?_)
  · obtain ⟨p, d, names, kvs, tk, rfl, _⟩ := h
    rfl
  · obtain ⟨p, d, names, kvs, tk, rfl, hp, hd, hk, hT, k⟩ := h
    refine ⟨_, pss_one (ps_ret (pe_sortLam (par := "name") hr TB rfl hm hu (by rfl) M.sorted (lamP_by (sc := defScope sInOrder) (by decide +kernel)) (pv 0) (pk_dict (j := 1) rfl (by decide +kernel) (by decide +kernel) (lamP_by (sc := defScope sInOrder) (by decide +kernel)) (Or.inr (Or.inl rfl))))), ?_⟩
    refine ⟨_, rfl, p, names.map V.str, names.map tk, rfl, .inl hp, by simp, hT, fun H2 e i x kk hx hkk => ?_, fun H2 D e T2 fD => ?_⟩
    · rw [List.getElem?_map] at hx hkk
      obtain ⟨n, hn, rfl⟩ := Option.map_eq_some_iff.mp hx
      rw [hn] at hkk
      cases hkk
      exact ⟨d, kvs, .inr n, rfl, .inl (ExtN.dK e hd), rfl, hk n (List.mem_of_getElem? hn)⟩
    · have e1 : (isort ((names.map tk).zip (names.map V.str))).map (·.2) = (sortBy tk names).map V.str := by
        rw [zip_self, isort_map, List.map_map]
        unfold sortBy
        rw [List.map_map]
        rfl
      rw [e1]
      exact k _ D (fun b o h n => by rw [upd_ne (ne_of_none (e b o h n) fD)]; exact e b o h n) (T2.ext fun b o h => by rw [upd_ne (ne_of_none h fD)]; exact h) (New.ext e (New.of fD)) upd_same
end
end Sl

/-! The mathematics of driving: rows of (name, tick, leader) behind a section. -/
namespace Sl
open OwnR
section
variable {N : Type} [DecidableEq N]
abbrev RowT (N : Type) := N × Int × Option N
/-- one more car enters a narrow section -/
def fnext (free : N → Int) (acc : List (RowT N)) (n : N) : RowT N :=
  match acc.getLast? with
  | none => (n, free n, none)
  | some (a, t, l) => if free n < t then (n, t, some (l.getD a)) else (n, free n, none)
def foll (free : N → Int) (order : List N) : List (RowT N) := order.foldl (fun acc n => acc ++ [fnext free acc n]) []
theorem fnext_name (free : N → Int) (acc : List (RowT N)) (n : N) : (fnext free acc n).1 = n := by
  unfold fnext
  split
  · rfl
  · split <;> rfl
theorem foll_snoc (free : N → Int) (order : List N) (n : N) : foll free (order ++ [n]) = foll free order ++ [fnext free (foll free order) n] := by
  unfold foll
  rw [List.foldl_append]
  rfl
theorem foll_names (free : N → Int) (order : List N) : (foll free order).map (·.1) = order := by
  have h : ∀ (l : List N) (acc : List (RowT N)), (l.foldl (fun acc n => acc ++ [fnext free acc n]) acc).map (·.1) = acc.map (·.1) ++ l := by
    intro l
    induction l with
    | nil => intro acc; simp
    | cons n r ih =>
      intro acc
      rw [List.foldl_cons, ih, List.map_append, List.append_assoc]
      simp [fnext_name]
  have := h order []
  simpa [foll] using this
theorem foll_length (free : N → Int) (order : List N) : (foll free order).length = order.length := by
  have := congrArg List.length (foll_names free order)
  simpa using this
/-- what a row list tells of a name -/
def look (acc : List (RowT N)) (n : N) : Option (Int × Option N) := (acc.find? fun r => decide (r.1 = n)).map (·.2)
theorem look_nil (n : N) : look ([] : List (RowT N)) n = none := rfl
theorem look_none {acc : List (RowT N)} {n : N} (h : n ∉ acc.map (·.1)) : look acc n = none := by
  unfold look
  rw [List.find?_eq_none.mpr]
  · rfl
  · intro r hr
    simp only [decide_eq_true_eq]
    intro e
    exact h (List.mem_map.mpr ⟨r, hr, e⟩)
theorem look_snoc (acc : List (RowT N)) (r : RowT N) (m : N) (h : r.1 ∉ acc.map (·.1)) : look (acc ++ [r]) m = if m = r.1 then some r.2 else look acc m := by
  by_cases e : m = r.1
  · subst e
    have h1 : acc.find? (fun x => decide (x.1 = r.1)) = none := by
      rw [List.find?_eq_none]
      intro x hx
      simp only [decide_eq_true_eq]
      exact fun z => h (List.mem_map.mpr ⟨x, hx, z⟩)
    unfold look
    rw [List.find?_append, h1]
    simp
  · rw [if_neg e]
    unfold look
    rw [List.find?_append]
    have h1 : ([r] : List (RowT N)).find? (fun x => decide (x.1 = m)) = none := by
      have : ¬ r.1 = m := fun z => e z.symm
      simp [this]
    rw [h1]
    simp
theorem look_get {acc : List (RowT N)} (nd : (acc.map (·.1)).Nodup) {i : Nat} {r : RowT N} (h : acc[i]? = some r) : look acc r.1 = some r.2 := by
  induction acc generalizing i with
  | nil => simp at h
  | cons a l ih =>
    rw [List.map_cons, List.nodup_cons] at nd
    cases i with
    | zero =>
      have e : a = r := by simpa using h
      subst e
      unfold look
      simp
    | succ j =>
      have hj : l[j]? = some r := by simpa using h
      have hm : r.1 ∈ l.map (·.1) := List.mem_map.mpr ⟨r, List.mem_of_getElem? hj, rfl⟩
      have hne : ¬ a.1 = r.1 := fun z => nd.1 (z ▸ hm)
      have := ih nd.2 hj
      unfold look at this ⊢
      rw [List.find?_cons, decide_eq_false hne]
      exact this
theorem look_some {acc : List (RowT N)} {n : N} (h : n ∈ acc.map (·.1)) : ∃ x, look acc n = some x := by
  obtain ⟨r, hr, e⟩ := List.mem_map.mp h
  unfold look
  cases q : acc.find? (fun r => decide (r.1 = n)) with
  | none =>
    rw [List.find?_eq_none] at q
    have := q r hr
    simp [e] at this
  | some z => exact ⟨z.2, rfl⟩
def tickOf (acc : List (RowT N)) (n : N) : Int := ((look acc n).map (·.1)).getD 0
def leadOf (acc : List (RowT N)) (n : N) : Option N := (look acc n).bind (·.2)
end
end Sl

set_option Elab.async false
set_option linter.all false
set_option maxRecDepth 100000
set_option maxHeartbeats 1000000
namespace Sl
open PySem PySem.Spec L2 OwnR LamX
theorem key_eq (a b : Str) : ((Sum.inr a : Key) = Sum.inr b) = (a = b) := by
  refine propext ⟨fun h => Sum.inr.inj h, fun h => congrArg _ h⟩
/-- a dict of ticks, a dict of leaders, as the rows tell -/
def TkD (kvs : List (Key × V)) (acc : List (RowT Str)) : Prop := ∀ n, valV kvs (Sum.inr n : Key) = (look acc n).map fun x => V.int x.1
def LdD (kvs : List (Key × V)) (acc : List (RowT Str)) : Prop := ∀ n, valV kvs (Sum.inr n : Key) = (look acc n).bind fun x => x.2.map V.str
theorem valV_putS (kvs : List (Key × V)) (k j : Str) (y : V) : valV (putK kvs (Sum.inr k : Key) y) (Sum.inr j : Key) = if j = k then some y else valV kvs (Sum.inr j : Key) := by
  rw [valV_put]
  by_cases e : j = k
  · rw [if_pos e, if_pos (congrArg _ e)]
  · rw [if_neg e, if_neg (fun z => e (Sum.inr.inj z))]
theorem gk {H : Hp} {a : Addr} {kvs : List (Key × V)} {n : Str} {v : V} (e : H a = some (.dK kvs)) (h : valV kvs (Sum.inr n : Key) = some v) : DGet H a (.str n) (some v) := by
  have q := DGet.k (k := (Sum.inr n : Key)) e
  rw [h] at q
  exact q
theorem gk0 {H : Hp} {a : Addr} {kvs : List (Key × V)} {n : Str} {o : Option V} (e : H a = some (.dK kvs)) (h : valV kvs (Sum.inr n : Key) = o) : DGet H a (.str n) o := by
  have q := DGet.k (k := (Sum.inr n : Key)) e
  rw [h] at q
  exact q
theorem look_last {acc : List (RowT Str)} (nd : (acc.map (·.1)).Nodup) {r : RowT Str} (h : acc.getLast? = some r) : look acc r.1 = some r.2 := by
  rw [List.getLast?_eq_getElem?] at h
  exact look_get nd h
theorem TkD.put {kvs : List (Key × V)} {acc : List (RowT Str)} {r : RowT Str} (h : TkD kvs acc) (hn : r.1 ∉ acc.map (·.1)) : TkD (putK kvs (Sum.inr r.1 : Key) (.int r.2.1)) (acc ++ [r]) := by
  intro m
  rw [valV_putS, look_snoc acc r m hn]
  by_cases e : m = r.1
  · rw [if_pos e, if_pos e]; rfl
  · rw [if_neg e, if_neg e]; exact h m
theorem TkD.put2 {kvs : List (Key × V)} {acc : List (RowT Str)} {r : RowT Str} {y : V} (h : TkD kvs acc) (hn : r.1 ∉ acc.map (·.1)) : TkD (putK (putK kvs (Sum.inr r.1 : Key) y) (Sum.inr r.1 : Key) (.int r.2.1)) (acc ++ [r]) := by
  intro m
  rw [valV_putS, valV_putS, look_snoc acc r m hn]
  by_cases e : m = r.1
  · rw [if_pos e, if_pos e]; rfl
  · rw [if_neg e, if_neg e, if_neg e]; exact h m
theorem LdD.put {kvs : List (Key × V)} {acc : List (RowT Str)} {r : RowT Str} {l : Str} (h : LdD kvs acc) (hn : r.1 ∉ acc.map (·.1)) (hl : r.2.2 = some l) : LdD (putK kvs (Sum.inr r.1 : Key) (.str l)) (acc ++ [r]) := by
  intro m
  rw [valV_putS, look_snoc acc r m hn]
  by_cases e : m = r.1
  · rw [if_pos e, if_pos e]; simp [hl]
  · rw [if_neg e, if_neg e]; exact h m
theorem LdD.skip {kvs : List (Key × V)} {acc : List (RowT Str)} {r : RowT Str} (h : LdD kvs acc) (hn : r.1 ∉ acc.map (·.1)) (hl : r.2.2 = none) : LdD kvs (acc ++ [r]) := by
  intro m
  rw [look_snoc acc r m hn]
  by_cases e : m = r.1
  · rw [if_pos e, h m, e, look_none hn]; simp [hl]
  · rw [if_neg e]; exact h m
section
variable {P : Program} {w : World} {K : PySem.W.Frag} {mg : Str → Option Value} {base : Heap}
def spFollow (K : PySem.W.Frag) : Sp := fun vs H Q _ => ∃ (p d : Addr) (order : List Str) (kvs : List (Key × V)) (fr : Str → Int), vs = [.ref p, .ref d] ∧ SqL K H p (order.map V.str) ∧ H d = some (.dK kvs) ∧
  (∀ n ∈ order, valV kvs (Sum.inr n : Key) = some (.int (fr n))) ∧ order.Nodup ∧ order.length ≤ 100 ∧
  ∀ H' t L G kL kG, Same H H' → H L = none → H G = none → L ≠ G → H' t = some (.tup [.ref L, .ref G]) → H' L = some (.dK kL) → H' G = some (.dK kG) → TkD kL (foll fr order) → LdD kG (foll fr order) → Q (.ref t) H'
theorem scFollow : FnScope ["order", "free", "left", "leaders", "ahead", "name"] ["order", "free"] (defScope sFollow) := ⟨rfl, rfl, rfl, by decide +kernel, rfl, by decide +kernel, by decide +kernel⟩
def aheadV (acc : List (RowT Str)) : V := match acc.getLast? with
  | none => .non
  | some r => .str r.1
theorem ok_follow {f : Addr} {fd : FuncData} (F : Fb K mg "_follow" sFollow ["order", "free"] f fd) : FnOk P w K mg base CX0 1 f fd ["order", "free"] (spFollow K) := by
  refine F.fn.ok scFollow (fun vs H Q E h => ?_) (fun cdv A outer s H vs Q E hr h => ?_)
  · obtain ⟨p, d, o, kvs, fr, rfl, _⟩ := h
    rfl
  · obtain ⟨p, d, order, kvs, fr, rfl, hp, hd, hk, hnd, hlen, k⟩ := h
    have nd := scFollow.nd
    have hu := hu_of hr
    refine ⟨_, pss_cons (ps_set (i := 2) nd rfl (.inl rfl) pe_dnewK) (pss_cons (ps_set (i := 3) nd rfl (.inl rfl) pe_dnewK) (pss_cons (ps_set (i := 4) nd rfl (.inl rfl) pe_non)
      (pss_cons (ps_for PassesOwn.never rfl (pi_list (pv 0)) (pg_name (i := 5) nd rfl (.inl rfl))
        (pss_cons (ps_dput hu (pv 2) (pv 5) (pe_dget hu (pv 1) (pv 5) (fun _ _ => rfl)) rfl)
        (pss_cons (ps_if (PW.pt (pw_and (pt_cmp (pc_notN (pv 4))) (pw_and1 (pt_cmpR op_lt (pe_dget hu (pv 1) (pv 5) (fun _ _ => rfl)) (pe_dget hu (pv 2) (pv 4) (fun _ _ => rfl)) (nomark _)))))
            (pss_cons (ps_dput hu (pv 2) (pv 5) (pe_dget hu (pv 2) (pv 4) (fun _ _ => rfl)) rfl) (pss_one (ps_dput hu (pv 3) (pv 5) (pe_dget2 hu (pv 3) (pv 4) (pv 4) ⟨rfl, rfl, rfl, rfl⟩) rfl))) pss_nil)
          (pss_one (ps_set (i := 4) nd rfl (.inl rfl) (pv 5))))))
      (pss_one (ps_ret (pe_tup (pa_cons (pv 2) (pa_cons (pv 3) pa_nil)))))))), ?_⟩
    intro L hL G hG
    have nLG : L ≠ G := ne_of_none (H := upd H L (.dK [])) upd_same hG
    have hG0 : H G = none := by rw [upd_ne nLG.symm] at hG; exact hG
    have ndL : d ≠ L := ne_of_none hd hL
    have ndG : d ≠ G := ne_of_none hd hG0
    have s0 : Same H (upd (upd H L (.dK [])) G (.dK [])) := fun b o e => by rw [upd_ne (ne_of_none e hG0), upd_ne (ne_of_none e hL)]; exact e
    refine ⟨_, rfl, p, rfl, ⟨_, s0.seq hp⟩, for_list (K := K) (a := p) (xs := order.map V.str) (fun i σ H1 => ∃ v5 kL kG, σ = [some (.ref p), some (.ref d), some (.ref L), some (.ref G), some (aheadV (foll fr (order.take i))), v5] ∧ Same H H1 ∧
        H1 L = some (.dK kL) ∧ H1 G = some (.dK kG) ∧ TkD kL (foll fr (order.take i)) ∧ LdD kG (foll fr (order.take i)) ∧ kL.length ≤ 2 * i ∧ kG.length ≤ i)
      ⟨none, [], [], rfl, s0, by rw [upd_ne nLG, upd_same], upd_same, fun n => rfl, fun n => rfl, Nat.zero_le _, Nat.zero_le _⟩ (fun i σ H1 _ ⟨_, _, _, _, s1, _⟩ => s1.seq hp) ?_ ?_⟩
    · rintro i x σ H1 hi ⟨v5, kL, kG, rfl, s1, h1, h2, tL, tG, lL, lG⟩
      obtain ⟨n, hn, rfl⟩ : ∃ n, order[i]? = some n ∧ x = V.str n := by
        rw [List.getElem?_map] at hi
        obtain ⟨n, z1, z2⟩ := Option.map_eq_some_iff.mp hi
        exact ⟨n, z1, z2.symm⟩
      have hil : i < order.length := (List.getElem?_eq_some_iff.mp hn).1
      have hfr := hk n (List.mem_of_getElem? hn)
      have hd1 := s1 _ _ hd
      have enames := foll_names fr (order.take i)
      have hnew : n ∉ (foll fr (order.take i)).map (·.1) := by
        rw [enames]
        intro hm
        obtain ⟨j, hj⟩ := List.mem_iff_getElem?.mp hm
        have hj2 : j < i := by
          have := (List.getElem?_eq_some_iff.mp hj).1
          rw [List.length_take] at this
          omega
        rw [List.getElem?_take_of_lt hj2] at hj
        have := nd_ix hnd hj hn
        omega
      have etk : foll fr (order.take (i + 1)) = foll fr (order.take i) ++ [fnext fr (foll fr (order.take i)) n] := by rw [tk1 hn, foll_snoc]
      have lk := fun m => look_snoc (foll fr (order.take i)) (fnext fr (foll fr (order.take i)) n) m (by rw [fnext_name]; exact hnew)
      rw [fnext_name] at lk
      have hndA : ((foll fr (order.take i)).map (·.1)).Nodup := by
        rw [enames]
        exact hnd.sublist (List.take_sublist _ _)
      rw [etk]
      generalize foll fr (order.take i) = acc at *
      have hn1 : (fnext fr acc n).1 ∉ acc.map (·.1) := by rw [fnext_name]; exact hnew
      have zL : kL.length < sizeLine := small1000 (by omega)
      have zG : kG.length < sizeLine := small1000 (by omega)
      have nLG2 : L ≠ G := nLG
      refine ⟨_, rfl, _, rfl, d, _, rfl, gk hd1 hfr, _, rfl, _, rfl, L, _, rfl, DPut.k (k := (Sum.inr n : Key)) h1 zL, ?_⟩
      have l1 := length_putK kL (Sum.inr n : Key) (.int (fr n))
      have hLast : ∀ (r : RowT Str), aheadV (acc ++ [r]) = .str r.1 := fun r => by
        unfold aheadV
        rw [List.getLast?_append]
        rfl
      have sL : Same H (upd H1 L (.dK (putK kL (Sum.inr n : Key) (.int (fr n))))) := fun b o e => by rw [upd_ne (ne_of_none e hL)]; exact s1 b o e
      cases hl : acc.getLast? with
      | none =>
        have eV : aheadV acc = .non := by unfold aheadV; rw [hl]
        have ef : fnext fr acc n = (n, fr n, none) := by unfold fnext; rw [hl]
        rw [eV]
        refine ⟨_, rfl, _, rfl, ?_⟩
        rw [show (!decide (V.non = V.non)) = false by simp]
        refine iteF ?_
        refine iteF ?_
        rw [ef] at hn1 ⊢
        refine ⟨_, rfl, some (.str n), _, _, ?_, sL, upd_same, by rw [upd_ne nLG.symm]; exact h2, tL.put (r := (n, fr n, none)) hn1, tG.skip hn1 rfl, by omega, by omega⟩
        rw [hLast]
        rfl
      | some r =>
        obtain ⟨a, t, l⟩ := r
        have eV : aheadV acc = .str a := by unfold aheadV; rw [hl]
        have la := look_last hndA hl
        have nea : a ≠ n := fun z => by
          rw [z, look_none hnew] at la
          cases la
        have ga : valV (putK kL (Sum.inr n : Key) (.int (fr n))) (Sum.inr a : Key) = some (.int t) := by
          rw [valV_putS, if_neg nea, tL a, la]
          rfl
        have gL : upd H1 L (.dK (putK kL (Sum.inr n : Key) (.int (fr n)))) L = some (.dK (putK kL (Sum.inr n : Key) (.int (fr n)))) := upd_same
        rw [eV]
        refine ⟨_, rfl, _, rfl, ?_⟩
        rw [show (!decide (V.str a = V.non)) = true by simp]
        refine iteT ?_
        refine ⟨_, rfl, _, rfl, d, _, rfl, gk (by rw [upd_ne ndL]; exact hd1) hfr, _, rfl, _, rfl, L, _, rfl, gk gL ga, fr n, t, rfl, rfl, _, rfl, ?_⟩
        by_cases hc : fr n < t
        · rw [decide_eq_true hc]
          refine iteT ?_
          have ef : fnext fr acc n = (n, t, some (l.getD a)) := by
            unfold fnext
            rw [hl]
            exact if_pos hc
          have gG : valV kG (Sum.inr a : Key) = l.map V.str := by rw [tG a, la]; rfl
          have l2 := length_putK (putK kL (Sum.inr n : Key) (.int (fr n))) (Sum.inr n : Key) (.int t)
          have l3 := length_putK kG (Sum.inr n : Key) (.str (l.getD a))
          have eg : ((l.map V.str).getD (.str a)) = V.str (l.getD a) := by cases l <;> rfl
          rw [ef] at hn1 ⊢
          refine ⟨_, rfl, _, rfl, L, _, rfl, gk gL ga, _, rfl, _, rfl, L, _, rfl, DPut.k (k := (Sum.inr n : Key)) gL (small1000 (by omega)), ?_⟩
          have gG2 : (upd (upd H1 L (.dK (putK kL (Sum.inr n : Key) (.int (fr n))))) L (.dK (putK (putK kL (Sum.inr n : Key) (.int (fr n))) (Sum.inr n : Key) (.int t)))) G = some (.dK kG) := by rw [upd_ne nLG.symm, upd_ne nLG.symm]; exact h2
          refine ⟨_, rfl, G, rfl, .inl ⟨_, .inl gG2⟩, _, rfl, _, rfl, _, gk0 gG2 gG, ?_⟩
          rw [eg]
          refine ⟨_, rfl, _, rfl, G, _, rfl, DPut.k (k := (Sum.inr n : Key)) gG2 zG, ?_⟩
          refine ⟨_, rfl, some (.str n), _, _, ?_, fun b o e => ?_, by rw [upd_ne nLG, upd_same], upd_same, tL.put2 (r := (n, t, some (l.getD a))) hn1, tG.put (r := (n, t, some (l.getD a))) hn1 rfl, Nat.le_trans l2 (by omega), Nat.le_trans l3 (by omega)⟩
          · rw [hLast]
            rfl
          · rw [upd_ne (ne_of_none e hG0), upd_ne (ne_of_none e hL)]
            exact sL b o e
        · rw [decide_eq_false hc]
          refine iteF ?_
          have ef : fnext fr acc n = (n, fr n, none) := by
            unfold fnext
            rw [hl]
            exact if_neg hc
          rw [ef] at hn1 ⊢
          refine ⟨_, rfl, some (.str n), _, _, ?_, sL, upd_same, by rw [upd_ne nLG.symm]; exact h2, tL.put (r := (n, fr n, none)) hn1, tG.skip hn1 rfl, by omega, by omega⟩
          rw [hLast]
          rfl
    · rintro σ H1 ⟨v5, kL, kG, rfl, s1, h1, h2, tL, tG, lL, lG⟩
      have e3 : order.take (order.map V.str).length = order := by rw [List.length_map, List.take_length]
      rw [e3] at tL tG
      refine ⟨_, rfl, _, rfl, by show 2 ≤ sizeLine; decide, fun t ht => ?_⟩
      exact k _ t L G kL kG (fun b o e => by rw [upd_ne (ne_of_none (s1 _ _ e) ht)]; exact s1 b o e) hL hG0 nLG upd_same (by rw [upd_ne (ne_of_none h1 ht)]; exact h1) (by rw [upd_ne (ne_of_none h2 ht)]; exact h2) tL tG
end
end Sl

set_option Elab.async false
set_option linter.all false
set_option maxRecDepth 100000
set_option maxHeartbeats 1000000
namespace OwnR
open PySem PySem.Spec PyProof.Rows L2
theorem fold_flat : ∀ (l : List (Array Nat)) (acc : Array Nat), (l.foldl (· ++ ·) acc).toList = acc.toList ++ (l.map (·.toList)).flatten
  | [], acc => by simp
  | a :: r, acc => by
    rw [List.foldl_cons, fold_flat r, List.map_cons, List.flatten_cons]
    simp
/-- z * n, a text repeated, n from 1 -/
def rRepS : R2 := fun x y H Q => ∃ (z : Str) (n : Nat), x = .str z ∧ y = .int (n : Int) ∧ 1 ≤ n ∧ n ≤ 1000000 ∧ z.length * n ≤ 1000000 ∧ ∀ u : Str, u.cps.toList = (List.replicate n z.cps.toList).flatten → Q (.str u) H
theorem line_big : 1000000 ≤ sizeLine := by decide
theorem op_repS {X : Cx} : OpR X (binaryOp .Mult) rRepS := by
  intro pins s σ H x y v u Q I rx ry h
  obtain ⟨z, n, rfl, rfl, h1, hn, hz, q⟩ := h
  obtain ⟨t, rfl⟩ := (show ∃ t, v = Value.str z t from rx)
  obtain ⟨t', rfl⟩ := (show ∃ t, u = Value.int (n : Int) t from ry)
  have hn1 : ¬ (n : Int) < 1 := by omega
  have hzl : (z.length : Int) * (n : Int) ≤ 1000000 := by
    rw [← Int.natCast_mul]
    generalize z.length * n = mm at hz
    omega
  refine P.mul_str (by
      rw [decide_eq_false (by omega : ¬ (n : Int) < -(2 ^ 63)), decide_eq_false (by omega : ¬ (n : Int) ≥ 2 ^ 63)]
      rfl) (fun _ hne => ?_) (fun _ hne => ?_) ?_
  · have e1 : (z.length : Int) ≤ (2 ^ 63 - 1 : Int) / (n : Int) := by
      refine Int.le_ediv_of_mul_le (by omega) ?_
      exact Int.le_trans hzl (by decide)
    exact Int.not_lt.mpr e1
  · unfold Builtin.Str.tooLong
    have e2 : z.length * (n : Int).toNat ≤ sizeLine := by
      have : (n : Int).toNat = n := by omega
      rw [this]
      exact Nat.le_trans hz line_big
    simp only [decide_eq_false_iff_not]
    omega
  · rw [if_neg hn1]
    split
    · rename_i hb
      have hb : (n : Int) = 1 ∨ z.length = 0 := by simpa using hb
      refine ⟨.str z, H, I, ⟨t, rfl⟩, q z ?_⟩
      rcases hb with hb | hb
      · have : n = 1 := by omega
        subst this
        simp
      · have hl : z.cps.toList = [] := by
          have : z.cps.toList.length = 0 := by simpa [Str.length] using hb
          exact List.length_eq_zero_iff.mp this
        rw [hl]
        simp
    · have en : (n : Int).toNat = n := by omega
      rw [en]
      have ec : (⟨(List.replicate n z.cps).foldl (· ++ ·) #[]⟩ : Str).cps.toList = (List.replicate n z.cps.toList).flatten := by
        show ((List.replicate n z.cps).foldl (· ++ ·) #[]).toList = _
        rw [fold_flat, List.map_replicate]
        simp
      refine ⟨?_, .str _, H, I.tok _, ⟨_, rfl⟩, q _ ec⟩
      have : (⟨(List.replicate n z.cps).foldl (· ++ ·) #[]⟩ : Str).length = z.length * n := by
        show ((List.replicate n z.cps).foldl (· ++ ·) #[]).size = z.cps.size * n
        rw [← Array.length_toList, fold_flat, List.map_replicate]
        simp [Nat.mul_comm]
      rw [this]
      exact Nat.le_trans hz line_big
/-! ### d.get(k), d a written dict that has k -/
def tKGet1 (K : PySem.W.Frag) (w : World) (td ty : TE) : TE := fun σ H Q => td σ H fun x H1 => ∃ p, x = .ref p ∧ (p == sysModules) = false ∧ (∃ z0 v0, KDct K w p z0 v0) ∧ ty σ H1 fun y H2 => ∃ (z : Str) (v : V), y = .str z ∧ KDct K w p z v ∧ Q v H2
theorem pe_kget1 {X : Cx} {o e : Expr} {apos cpos : Pos} {td ty : TE} (ho : PE X o td) (he : PE X e ty) (m : M1 X o "get" apos e cpos) : PE X (.Call (.Attribute o "get" apos) [e] [] cpos) (tKGet1 X.K X.w td ty) := by
  refine ⟨fun pins s σ H Q I h => ?_⟩
  refine wpAny_Call_method m.base m.few m.line PySem.F.plainAttrs_dict PySem.F.slot_dict_get PySem.F.type_dict_get (thn (ho.run pins s σ H _ I h) fun u s1 ⟨x, H1, I1, rx, p, ex, np, ⟨z0, v0, es0, n0, u0, hl0, hk0, e0, _⟩, q1⟩ => ?_)
  subst ex
  cases (show u = Value.ref p from rx)
  have hm0 := PySem.W.mapOf_K (prog := X.prog) (w := X.w) I1.kIn hl0 hk0
  refine ⟨hm0.typeIs, fun b q => ?_, ?_⟩
  · cases q
    exact ⟨_, I1.kIn _ _ hl0, rfl⟩
  rw [m.trees]
  refine Calls.callWith_builtin rfl (Calls.evalArgs_plain (Calls.spliced_cons (thn (he.run pins s1 σ H1 _ I1 q1) fun iv s2 ⟨y, H2, I2, ry, z, v, ey, kd, q2⟩ => Calls.spliced_nil ?_)))
  subst ey
  obtain ⟨es, n, u1, hl, hk, e1, ru⟩ := kd
  obtain ⟨t, rfl⟩ := (show ∃ t, iv = Value.str z t from ry)
  have hm := PySem.W.mapOf_K (prog := X.prog) (w := X.w) I2.kIn hl hk
  have hf := PySem.W.find_K hl e1
  refine call_meetsIn PySem.F.slot_dict_get hm.typeIs PySem.F.entry_dict_get (PySem.F.args_dict_get_2 _ _) (meets_dict_get (strKind X.prog X.w) p (strKind_is X.prog X.w z t) np) ⟨_, hm, ?_⟩
  rw [hf]
  exact ⟨v, H2, I2.tok _, ru, q2⟩
/-! ### a dict comprehension over any walk -/
theorem dc_it {J : It} {n : Nat} {G : Hp → Prop} {Y : Nat → Hp → V → Hp → Prop} (wk : Walk J n G Y) {g : TG} {tt : TT} {tk tv : TE} {vs : List Nat} {σ : L2.St} {H1 : Hp} {D : Addr} {Qd : Hp → Prop} (Pv : Nat → Hp → Prop) (h0 : Pv 0 (upd H1 D (.dK []))) (hG : ∀ i H, i ≤ n → Pv i H → G H)
    (hs : ∀ i x H H', i < n → Pv i H → Y i H x H' → g x (wipe σ vs) H' fun σ2 H2 => wipe σ2 vs = wipe σ vs ∧ tt σ2 H2 fun b H3 =>
      if b = true then tk σ2 H3 fun y H4 => tv σ2 H4 fun z H5 => ∃ kvs k, y = kV k ∧ H5 D = some (.dK kvs) ∧ kvs.length < sizeLine ∧ Pv (i + 1) (upd H5 D (.dK (putK kvs k z))) else Pv (i + 1) H3) (hd : ∀ H, Pv n H → Qd H) :
    ∃ W : Nat → Nat → Hp → Prop, (∃ m, W 0 m (upd H1 D (.dK []))) ∧ ∀ i m H, W i m H →
      (J.stop i H ∧ Qd H) ∨ (J.go i H ∧ ∃ Nx : Hp → Prop, (∀ H', Nx H' → ∃ m', m' < m ∧ W (i + 1) m' H') ∧ ∀ x H', J.yld i H x H' → g x (wipe σ vs) H' fun σ2 H2 => wipe σ2 vs = wipe σ vs ∧ tt σ2 H2 fun b H3 =>
        if b = true then tk σ2 H3 fun y H4 => tv σ2 H4 fun z H5 => ∃ kvs k, y = kV k ∧ H5 D = some (.dK kvs) ∧ kvs.length < sizeLine ∧ Nx (upd H5 D (.dK (putK kvs k z))) else Nx H3) := by
  refine ⟨fun i m H => m + i = n ∧ Pv i H, ⟨n, by omega, h0⟩, ?_⟩
  rintro i m H ⟨em, p⟩
  have hi : i ≤ n := by omega
  have g0 := hG i H hi p
  rcases Nat.lt_or_ge i n with lt | ge
  · exact .inr ⟨wk.goes i H lt g0, Pv (i + 1), fun H' p' => ⟨n - (i + 1), by omega, by omega, p'⟩, fun x H' y => hs i x H H' lt p (wk.yields i H x H' lt g0 y)⟩
  · have ei : i = n := by omega
    subst ei
    exact .inl ⟨wk.stops H g0, hd H p⟩
end OwnR

set_option Elab.async false
set_option linter.all false
set_option maxRecDepth 100000
set_option maxHeartbeats 1000000
namespace Sl
open PySem PySem.Spec L2 OwnR LamX
/-- a section: whether it is wide, its length -/
abbrev Sec := Bool × Nat
def kindS (b : Bool) : Str := if b then "wide" else "narrow"
def letterC (b : Bool) : Nat := if b then 119 else 110
def secV (s : Sec) : List V := [.str (kindS s.1), .int (s.2 : Nat)]
def SecsAt (H : Hp) (a : Addr) (secs : List Sec) : Prop := ∃ ts : List Addr, H a = some (.tup (ts.map V.ref)) ∧ ts.length = secs.length ∧ ∀ (i : Nat) (t : Addr) (s : Sec), ts[i]? = some t → secs[i]? = some s → H t = some (.tup (secV s))
theorem SecsAt.ext {H H' : Hp} {a : Addr} {secs : List Sec} (h : SecsAt H a secs) (e : ExtN H H') : SecsAt H' a secs := by
  obtain ⟨ts, h1, h2, h3⟩ := h
  exact ⟨ts, ExtN.tup e h1, h2, fun i t c e1 e2 => ExtN.tup e (h3 i t c e1 e2)⟩
structure SecsOk (secs : List Sec) : Prop where
  ne : secs ≠ []
  few : secs.length ≤ 12
  len : ∀ s ∈ secs, 1 ≤ s.2 ∧ s.2 ≤ 99
section
variable {P : Program} {w : World} {K : PySem.W.Frag} {mg : Str → Option Value} {base : Heap}
def spIsSection : Sp := fun vs H Q _ => ∃ (t : Addr) (s : Sec), vs = [.ref t] ∧ H t = some (.tup (secV s)) ∧ 1 ≤ s.2 ∧ s.2 ≤ 99 ∧ ∀ H', Same H H' → Q (.bl true) H'
theorem scIsSection : FnScope ["value", "kind", "length"] ["value"] (defScope sIsSection) := ⟨rfl, rfl, rfl, by decide +kernel, rfl, by decide +kernel, by decide +kernel⟩
theorem ok_isSection {f fB : Addr} {fd dB : FuncData} (F : Fb K mg "_is_section" sIsSection ["value"] f fd) (M : Mg mg) (BB : Fb K mg "is_number" sIsNumber ["value", "least", "most"] fB dB)
    (GB : FnOk P w K mg base CX0 1 fB dB ["value", "least", "most"] spIsNumber) : FnOk P w K mg base CX0 2 f fd ["value"] spIsSection := by
  obtain ⟨t1, M1⟩ := M.longestSection
  refine F.fn.ok scIsSection (fun vs H Q E h => ?_) (fun cdv A outer s H vs Q E hr h => ?_)
  · obtain ⟨t, c, rfl, _⟩ := h
    rfl
  · obtain ⟨t, c, rfl, ht, c1, c2, k⟩ := h
    have nd := scIsSection.nd
    refine ⟨_, pss_cons (ps_if (PW.pt (pw_or (pt_not (pt_val (pe_callB call_isi (by rfl) M.isinstance boot_isinstance (pa_cons (pv 0) (pa_cons (pe_bltn (v := .ty "tuple") (by rfl) M.tuple boot_tTuple rfl) pa_nil)))))
        (pw_or1 (pt_cmpR op_ne (pe_callB call_len_seq (by rfl) M.len boot_len (pa_cons (pv 0) pa_nil)) pe_int (nomark _))))) (pss_one (ps_ret pe_bl)) pss_nil)
      (pss_cons (ps_asg (pv 0) (pg_tup (by rfl) (pgs_cons (pg_name (i := 1) nd rfl (.inl rfl)) (pgs_cons (pg_name (i := 2) nd rfl (.inl rfl)) pgs_nil))))
      (pss_one (ps_ret (pe_and (pe_cmpR op_in_seq (pv 1) (pe_tup (pa_cons pe_str (pa_cons pe_str pa_nil))) (by rfl))
          (pe_one (pe_call GB hr (by rfl) BB.at_ BB.fn.kp BB.bd .nil pass0 (pa_cons (pv 2) (pa_cons pe_int (pa_cons (pe_glob (v := .int 99) (by rfl) M1 ⟨_, rfl⟩) pa_nil))))))))), ?_⟩
    refine ⟨_, rfl, _, _, _, _, true, rfl, .ty _, .base (.tup ht), kit_ty (by decide +kernel), true, rfl, iteF ?_⟩
    refine ⟨_, rfl, t, _, rfl, .inr (SqT.of ht), rfl, false, rfl, iteF ?_⟩
    refine ⟨_, rfl, t, secV c, rfl, SqT.of ht, rfl, _, _, rfl, _, _, rfl, rfl, ?_⟩
    refine ⟨_, rfl, by show 2 ≤ sizeLine; decide, fun p hp => ?_⟩
    refine ⟨p, _, rfl, .inr (SqT.of upd_same), rfl, rfl, true, ?_, iteT ?_⟩
    · show V.bl (inV (.str (kindS c.1)) _) = V.bl true
      cases c.1 <;> rfl
    refine ⟨_, rfl, (c.2 : Nat), 1, 99, rfl, ?_⟩
    rw [decide_eq_true (by omega : (1 : Int) ≤ (c.2 : Nat)), decide_eq_true (by omega : ((c.2 : Nat) : Int) ≤ 99)]
    exact k _ fun b o e => by rw [upd_ne (ne_of_none e hp)]; exact e
end
end Sl

set_option Elab.async false
set_option linter.all false
set_option maxRecDepth 100000
set_option maxHeartbeats 1000000
namespace Sl
open PySem PySem.Spec L2 OwnR LamX
def unitsL (secs : List Sec) : List Nat := secs.flatMap fun s => List.replicate s.2 (letterC s.1)
theorem unitsL_len : ∀ secs : List Sec, (unitsL secs).length = (secs.map (·.2)).sum
  | [] => rfl
  | s :: r => by
    have := unitsL_len r
    simp [unitsL] at this ⊢
theorem unitsL_snoc (secs : List Sec) (s : Sec) : unitsL (secs ++ [s]) = unitsL secs ++ List.replicate s.2 (letterC s.1) := by simp [unitsL]
theorem sum_le {secs : List Sec} (h : ∀ s ∈ secs, s.2 ≤ 99) : (secs.map (·.2)).sum ≤ 99 * secs.length := by
  induction secs with
  | nil => simp
  | cons s r ih =>
    have h1 := h s List.mem_cons_self
    have h2 := ih fun z hz => h z (List.mem_cons_of_mem _ hz)
    rw [List.map_cons, List.sum_cons, List.length_cons]
    omega
theorem ksu : ¬ (("_sections" : Str) = "_units") := by decide +kernel
/-- a Road's attributes -/
def rf (t : Addr) (u : Str) : List (Str × V) := putF "_units" (.str u) (putF "_sections" (.ref t) [])
theorem rf_eq (t : Addr) (u : Str) : rf t u = ([("_sections", V.ref t), ("_units", V.str u)] : List (Str × V)) := by
  show (if ("_sections" : Str) = "_units" then [(("_sections" : Str), V.str u)] else (("_sections" : Str), V.ref t) :: putF "_units" (V.str u) []) = ([("_sections", V.ref t), ("_units", V.str u)] : List (Str × V))
  rw [if_neg ksu]
  rfl
theorem rf_sections (t : Addr) (u : Str) : (rf t u).lookup ("_sections" : Str) = some (.ref t) := by
  unfold rf
  rw [lookup_putF, if_neg ksu, lookup_putF, if_pos rfl]
theorem rf_units (t : Addr) (u : Str) : (rf t u).lookup ("_units" : Str) = some (.str u) := by
  unfold rf
  rw [lookup_putF, if_pos rfl]
def RoadAt (C : Addr) (H : Hp) (p : Addr) (secs : List Sec) : Prop := ∃ dx t u, H p = some (.ins C dx (rf t u)) ∧ SecsAt H t secs ∧ u.cps.toList = unitsL secs
theorem RoadAt.ext {C : Addr} {H H' : Hp} {a : Addr} {secs : List Sec} (h : RoadAt C H a secs) (e : ExtN H H') : RoadAt C H' a secs := by
  obtain ⟨dx, t, u, h1, h2, h3⟩ := h
  exact ⟨dx, t, u, ExtN.ins e h1, h2.ext e, h3⟩
/-- what the program asks of the class Road and of the tables of letters -/
structure RoadT (K : PySem.W.Frag) (w : World) (mg : Str → Option Value) (C lp kp : Addr) : Prop where
  cl : Cls K C
  nS : NoAttr K C "_sections"
  nU : NoAttr K C "_units"
  mgC : mg "Road" = some (.ref C)
  mgL : mg "LETTERS" = some (.ref lp)
  mgK : mg "KINDS" = some (.ref kp)
  lN : KDct K w lp "narrow" (.str "n")
  lW : KDct K w lp "wide" (.str "w")
  kN : KDct K w kp "n" (.str "narrow")
  kW : KDct K w kp "w" (.str "wide")
  kM : (kp == sysModules) = false
def letterS (b : Bool) : Str := if b then "w" else "n"
theorem letter_toList (b : Bool) : (letterS b).cps.toList = [letterC b] := by cases b <;> decide +kernel
theorem joinL_nil : ∀ l : List (List Nat), TL.joinL [] l = l.flatten
  | [] => rfl
  | [p] => by simp [TL.joinL]
  | p :: q :: r => by
    have := joinL_nil (q :: r)
    simp [TL.joinL] at this ⊢
    exact this
theorem join_empty (ys : List Str) : (Txt.join ("" : Str) ys).cps.toList = (ys.map fun y => y.cps.toList).flatten := by
  have h := TL.tl_join ("" : Str) ys
  rw [TL.join_eq]
  have e : TL.tl ("" : Str) = [] := by decide +kernel
  rw [e, joinL_nil] at h
  exact h
section
variable {P : Program} {w : World} {K : PySem.W.Frag} {mg : Str → Option Value} {base : Heap}
theorem str_add_toList (i j : Str) : (i ++ j).cps.toList = i.cps.toList ++ j.cps.toList := by
  show (i.cps ++ j.cps).toList = _
  simp
theorem str_len_toList (i : Str) : i.length = i.cps.toList.length := by simp [Str.length]
theorem ip_addS {X : Cx} : PIp X .Add (fun x y H Q => ∃ i j, x = .str i ∧ y = .str j ∧ i.length + j.length ≤ sizeLine ∧ Q (.str (i ++ j)) H) := fun pins s σ H x y v u Q I rx ry h => iop_add_str pins s σ H x y v u Q I rx ry h
def spUnitsOf : Sp := fun vs H Q _ => ∃ (t : Addr) (secs : List Sec), vs = [.ref t] ∧ SecsAt H t secs ∧ SecsOk secs ∧ ∀ H' u, Same H H' → u.cps.toList = unitsL secs → Q (.str u) H'
def nUnitsOf : List Str := ["sections", "units", "kind", "length"]
theorem scUnitsOf : FnScope nUnitsOf ["sections"] (defScope sUnitsOf) := ⟨rfl, rfl, rfl, by decide +kernel, rfl, by decide +kernel, by decide +kernel⟩
theorem ok_unitsOf {f C lp kp : Addr} {fd : FuncData} (F : Fb K mg "_units_of" sUnitsOf ["sections"] f fd) (R : RoadT K w mg C lp kp) : FnOk P w K mg base CX0 1 f fd ["sections"] spUnitsOf := by
  refine F.fn.ok scUnitsOf (fun vs H Q E h => ?_) (fun cdv A outer s H vs Q E hr h => ?_)
  · obtain ⟨t, secs, rfl, _⟩ := h
    rfl
  · obtain ⟨t, secs, rfl, ⟨ts, ht, hlen, hsec⟩, S, k⟩ := h
    have nd := scUnitsOf.nd
    refine ⟨_, pss_cons (ps_set (i := 1) nd rfl (.inl rfl) pe_str)
      (pss_cons (ps_for PassesOwn.never rfl (pi_tup (pv 0)) (pg_tup rfl (pgs_cons (pg_name (i := 2) nd rfl (.inl rfl)) (pgs_cons (pg_name (i := 3) nd rfl (.inl rfl)) pgs_nil)))
        (pss_one (ps_aug (i := 1) nd rfl (.inl rfl) (pe_op op_repS (pe_ix (r := rIxD K w) ix_kdict (pe_glob (v := .ref lp) (by rfl) R.mgL rfl) (pv 2) (fun _ _ => rfl)) (pv 3)) ip_addS)))
      (pss_one (ps_ret (pv 1)))), ?_⟩
    have hts : (ts.map V.ref).length = secs.length := by rw [List.length_map, hlen]
    refine ⟨_, rfl, t, rfl, ⟨_, SqT.of ht⟩, for_it walk_tup (fun i σ H1 => ∃ u v2 v3, σ = [some (.ref t), some (.str u), v2, v3] ∧ Same H H1 ∧ u.cps.toList = unitsL (secs.take i))
      ⟨("" : Str), none, none, rfl, Same.refl H, by rw [List.take_zero]; decide +kernel⟩ (fun i σ H1 _ ⟨_, _, _, _, s1, _⟩ => SqT.of (s1 _ _ ht)) ?_ ?_⟩
    · rintro i y σ H1 H2 hi ⟨u, v2, v3, rfl, s1, eu⟩ ⟨e, hy⟩
      subst e
      have hic : i < secs.length := by rw [hts] at hi; exact hi
      obtain ⟨tt, htt, rfl⟩ : ∃ t, ts[i]? = some t ∧ y = V.ref t := by
        rw [List.getElem?_map] at hy
        obtain ⟨t, z1, z2⟩ := Option.map_eq_some_iff.mp hy
        exact ⟨t, z1, z2.symm⟩
      have hc : secs[i]? = some secs[i] := List.getElem?_eq_getElem hic
      have hct := s1 _ _ (hsec i tt _ htt hc)
      have c0 := S.len _ (List.getElem_mem hic)
      have hlk : KDct K w lp (kindS secs[i].1) (.str (letterS secs[i].1)) := by
        cases secs[i].1
        · exact R.lN
        · exact R.lW
      have hl1 : (letterS secs[i].1).length = 1 := by cases secs[i].1 <;> decide +kernel
      refine ⟨tt, _, rfl, SqT.of hct, rfl, _, _, rfl, _, _, rfl, rfl, ?_⟩
      refine ⟨_, rfl, _, rfl, lp, _, _, rfl, rfl, hlk, _, rfl, letterS secs[i].1, secs[i].2, rfl, rfl, c0.1, by omega, by rw [hl1]; omega, fun u2 hu2 => ?_⟩
      rw [letter_toList] at hu2
      have e2 : u2.cps.toList = List.replicate secs[i].2 (letterC secs[i].1) := by rw [hu2]; simp
      have hsz : u.length + u2.length ≤ sizeLine := by
        rw [str_len_toList, str_len_toList, eu, e2, List.length_replicate, unitsL_len]
        have h1 := sum_le (secs := secs.take i) fun s hs => (S.len s (List.mem_of_mem_take hs)).2
        have h2 : (secs.take i).length ≤ secs.length := by rw [List.length_take]; omega
        have h3 := S.few
        have h4 := c0.2
        exact Nat.le_trans (by omega : _ ≤ 2000) (by decide)
      refine ⟨u, u2, rfl, rfl, hsz, ?_⟩
      refine ⟨u ++ u2, _, _, rfl, s1, ?_⟩
      rw [str_add_toList, eu, e2, tk1 hc, unitsL_snoc]
    · rintro σ H1 ⟨u, v2, v3, rfl, s1, eu⟩
      refine ⟨_, rfl, ?_⟩
      have e9 : secs.take (ts.map V.ref).length = secs := by rw [hts, List.take_length]
      rw [e9] at eu
      exact k H1 u s1 eu
def spRInit0 (C : Addr) : Sp := fun vs H Q _ => ∃ (x dx t : Addr) (secs : List Sec), vs = [.ref x, .ref t] ∧ H x = some (.ins C dx []) ∧ SecsAt H t secs ∧ SecsOk secs ∧
  ∀ H' u, (∀ b o, H b = some o → b ≠ x → H' b = some o) → H' x = some (.ins C dx (rf t u)) → u.cps.toList = unitsL secs → Q .non H'
def nRInit : List Str := ["self", "sections", "index", "section"]
theorem scRInit : FnScope nRInit ["self", "sections"] (defScope sRInit) := ⟨rfl, rfl, rfl, by decide +kernel, rfl, by decide +kernel, by decide +kernel⟩
theorem ok_rInit {f fB fU C lp kp : Addr} {fd dB dU : FuncData} (F : Fun K "__init__" "Road.__init__" sRInit f fd) (M : Mg mg) (R : RoadT K w mg C lp kp) (BB : Fb K mg "_is_section" sIsSection ["value"] fB dB)
    (GB : FnOk P w K mg base CX0 2 fB dB ["value"] spIsSection) (BU : Fb K mg "_units_of" sUnitsOf ["sections"] fU dU) (GU : FnOk P w K mg base CX0 1 fU dU ["sections"] spUnitsOf) :
    FnR P w K mg base CX0 3 f (fun vs H Q E => ∃ ws rest, vs = ws ++ rest ∧ ws.length = (["self"] : List Str).length ∧ rest.length ≤ sizeLine ∧ ∀ p, H p = Option.none → spRInit0 C (ws ++ [V.ref p]) (upd H p (.tup rest)) Q E) := by
  obtain ⟨t1, M1⟩ := M.mostSections
  obtain ⟨oc, od, kV, doc, pm, an, cdv, ct, osl, rfl, lk, hcd⟩ := F.ex
  refine StX.fn_star lk hcd scRInit StX.cxUp_none (StX.bind_star1 (p1 := "self") (pv := "sections") (B := fun xs => bindArgs (PySem.W.fnOf "__init__" "Road.__init__" (defArgs sRInit) (defBody sRInit) (defScope sRInit) .none kV doc pm an cdv ct) ⟨xs, []⟩) (fun _ => rfl) (fun _ _ _ => rfl)) fun A outer s H vs Q E hr h => ?_
  obtain ⟨x, dx, t, secs, rfl, hx, ⟨ts, ht, hlen, hsec⟩, S, k⟩ := h
  have nd := scRInit.nd
  have hr1 : Room 1 (A.deeper (PyProof.Rows.envOfC "Road.__init__" (defScope sRInit) s.heap.objs.size f cdv)) := hr.mono (by decide)
  refine ⟨_, PSs.nox (pss_cons (ps_if (pt_not (pt_truth (pv 1) (by intro _; rfl))) (pss_one ps_never) pss_nil)
    (pss_cons (ps_for PassesOwn.never rfl (pi_enumT (by rfl) M.enumerate (pa_cons (pv 1) pa_nil)) (pg_tup rfl (pgs_cons (pg_name (i := 2) nd rfl (.inl rfl)) (pgs_cons (pg_name (i := 3) nd rfl (.inl rfl)) pgs_nil)))
      (pss_one (ps_if (PW.pt (pw_or (pt_cmpR op_eq (pv 2) (pe_glob (v := .int 12) (by rfl) M1 ⟨_, rfl⟩) (nomark _)) (pw_or1 (pt_not (pt_val (pe_call GB hr (by rfl) BB.at_ BB.fn.kp BB.bd .nil pass0 (pa_cons (pv 3) pa_nil))))))) (pss_one ps_never) pss_nil)))
    (pss_cons (ps_fld (pv 0) (pv 1) rfl)
    (pss_one (ps_fld (pv 0) (pe_call GU hr1 (by rfl) BU.at_ BU.fn.kp BU.bd .nil pass0 (pa_cons (pv 1) pa_nil)) rfl))))), ?_⟩
  have hts : (ts.map V.ref).length = secs.length := by rw [List.length_map, hlen]
  have hne : (ts.map V.ref).isEmpty = false := by
    cases ts with
    | nil =>
      exfalso
      exact S.ne (List.length_eq_zero_iff.mp hlen.symm)
    | cons _ _ => rfl
  refine ⟨_, rfl, true, .inr (.inl ⟨_, SqT.of ht, by rw [hne]; rfl⟩), iteF ?_⟩
  refine ⟨_, rfl, t, ts.map V.ref, rfl, SqT.of ht, for_it walk_enumT
    (fun i σ H1 => ∃ v2 v3, σ = [some (.ref x), some (.ref t), v2, v3] ∧ Same H H1)
    ⟨none, none, rfl, Same.refl H⟩ (fun i σ H1 _ ⟨_, _, _, s1⟩ => SqT.of (s1 _ _ ht)) ?_ ?_⟩
  · rintro i y σ H1 H2 hi ⟨v2, v3, rfl, s1⟩ ⟨T, x1, x2, rfl, hT, rfl, e1, e2⟩
    cases e1
    have hic : i < secs.length := by rw [hts] at hi; exact hi
    have e2 : (ts.map V.ref)[i]? = some x2 := e2
    obtain ⟨tt, htt, rfl⟩ : ∃ t, ts[i]? = some t ∧ x2 = V.ref t := by
      rw [List.getElem?_map] at e2
      obtain ⟨t, z1, z2⟩ := Option.map_eq_some_iff.mp e2
      exact ⟨t, z1, z2.symm⟩
    have hc : secs[i]? = some secs[i] := List.getElem?_eq_getElem hic
    have hct := hsec i tt _ htt hc
    have sT : Same H1 (upd H1 T (.tup [.int (i : Nat), .ref tt])) := fun b o e => by rw [upd_ne (ne_of_none e hT)]; exact e
    have c0 := S.len _ (List.getElem_mem hic)
    refine ⟨T, _, rfl, SqT.of upd_same, rfl, _, _, rfl, _, _, rfl, rfl, ?_⟩
    refine ⟨_, rfl, rfl, _, rfl, ?_⟩
    have ne12 : ¬ (V.int (i : Nat) = V.int 12) := fun z => by
      injection z with z
      have := S.few
      omega
    rw [decide_eq_false ne12]
    refine iteF ?_
    refine ⟨_, rfl, tt, secs[i], rfl, sT _ _ (s1 _ _ hct), c0.1, c0.2, fun H3 s3 => ⟨true, rfl, iteF ?_⟩⟩
    exact ⟨_, _, rfl, s1.trans (sT.trans s3)⟩
  · rintro σ H1 ⟨v2, v3, rfl, s1⟩
    have hx1 := s1 _ _ hx
    have ht1 := s1 _ _ ht
    have nxt : t ≠ x := ne_of ht1 hx1 (by intro z; cases z)
    refine ⟨_, rfl, _, rfl, x, C, dx, _, rfl, hx1, R.cl, R.nS, (by show 0 < 1000; decide), ?_⟩
    have sx : ∀ b o, H b = some o → b ≠ x → upd H1 x (.ins C dx (putF "_sections" (.ref t) [])) b = some o := fun b o e n => by rw [upd_ne n]; exact s1 b o e
    have hs2 : SecsAt (upd H1 x (.ins C dx (putF "_sections" (.ref t) []))) t secs := by
      refine ⟨ts, by rw [upd_ne nxt]; exact ht1, hlen, fun i a s e1 e2 => ?_⟩
      have h1 := s1 _ _ (hsec i a s e1 e2)
      rw [upd_ne (ne_of h1 hx1 (by intro z; cases z))]
      exact h1
    refine ⟨_, rfl, t, secs, rfl, hs2, S, fun H2 u k2 eU => ?_⟩
    have hx2 := k2 x _ upd_same
    refine ⟨_, rfl, x, C, dx, _, rfl, hx2, R.cl, R.nU, (by show 1 < 1000; decide), ?_⟩
    exact k _ _ (fun b o e n => by rw [upd_ne n]; exact k2 b o (sx b o e n)) upd_same eU
end
end Sl

/-! Runs of units: the longest runs of a list of Booleans. -/
namespace Sl
def rstep (acc : List (Bool × Nat)) (b : Bool) : List (Bool × Nat) := match acc.getLast? with
  | none => [(b, 1)]
  | some (k, n) => if k = b then acc.dropLast ++ [(k, n + 1)] else acc ++ [(b, 1)]
def runsOf (l : List Bool) : List (Bool × Nat) := l.foldl rstep []
theorem runsOf_snoc (l : List Bool) (b : Bool) : runsOf (l ++ [b]) = rstep (runsOf l) b := by
  unfold runsOf
  rw [List.foldl_append]
  rfl
theorem rstep_len (acc : List (Bool × Nat)) (b : Bool) : (rstep acc b).length ≤ acc.length + 1 := by
  unfold rstep
  split
  · simp
  · split
    · simp [List.length_dropLast]
    · simp
theorem runs_fold_len : ∀ (l : List Bool) (acc : List (Bool × Nat)), (l.foldl rstep acc).length ≤ acc.length + l.length
  | [], _ => by simp
  | b :: r, acc => by
    have h1 := runs_fold_len r (rstep acc b)
    have h2 := rstep_len acc b
    rw [List.foldl_cons, List.length_cons]
    omega
theorem runsOf_len (l : List Bool) : (runsOf l).length ≤ l.length := by
  have := runs_fold_len l []
  simpa [runsOf] using this
end Sl

set_option Elab.async false
set_option linter.all false
set_option maxRecDepth 100000
set_option maxHeartbeats 1000000
namespace Sl
open PySem PySem.Spec L2 OwnR LamX
section
variable {P : Program} {w : World} {K : PySem.W.Frag} {mg : Str → Option Value} {base : Heap}
/-! ### the property sections, len(road) -/
theorem scRSections : FnScope ["self"] ["self"] (defScope sRSections) := ⟨rfl, rfl, rfl, by decide +kernel, rfl, by decide +kernel, by decide +kernel⟩
theorem ok_rSections {f C lp kp : Addr} {fd : FuncData} (F : Fun K "sections" "Road.sections" sRSections f fd) (R : RoadT K w mg C lp kp) : FnOk P w K mg base CX0 1 f fd ["self"] (getSp C "_sections") := by
  obtain ⟨oc, od, kV, doc, pm, an, cdv, ct, osl, rfl, lk, hcd⟩ := F.ex
  exact fn_getter lk hcd scRSections rfl rfl R.cl R.nS
def spRLen (C : Addr) : Sp := fun vs H Q _ => ∃ (p : Addr) (secs : List Sec), vs = [.ref p] ∧ RoadAt C H p secs ∧ SecsOk secs ∧ Q (.int ((unitsL secs).length : Nat)) H
theorem scRLen : FnScope ["self"] ["self"] (defScope sRLen) := ⟨rfl, rfl, rfl, by decide +kernel, rfl, by decide +kernel, by decide +kernel⟩
theorem ok_rLen {f C lp kp : Addr} {fd : FuncData} (F : Fun K "__len__" "Road.__len__" sRLen f fd) (M : Mg mg) (R : RoadT K w mg C lp kp) : FnOk P w K mg base CX0 1 f fd ["self"] (spRLen C) := by
  refine F.ok scRLen (fun vs H Q E h => ?_) (fun cdv A outer s H vs Q E hr h => ?_)
  · obtain ⟨p, secs, rfl, _⟩ := h
    rfl
  · obtain ⟨p, secs, rfl, ⟨dx, t, u, hp, hs, hu⟩, S, k⟩ := h
    refine ⟨_, pss_one (ps_ret (pe_callB call_len_str (by rfl) M.len boot_len (pa_cons (pe_fld (pv 0) rfl) pa_nil))), ?_⟩
    have el : u.length = (unitsL secs).length := by rw [← hu]; simp [Str.length]
    have hz : u.length ≤ sizeLine := by
      rw [el, unitsL_len]
      have := sum_le fun s hs => (S.len s hs).2
      have := S.few
      exact Nat.le_trans (by omega : (secs.map (·.2)).sum ≤ 2000) (by decide)
    refine ⟨_, rfl, p, C, dx, _, _, rfl, hp, R.cl, R.nU, rf_units _ _, u, rfl, hz, ?_⟩
    rw [el]
    exact k
/-! ### _runs -/
def RunsAt (H : Hp) (a : Addr) (secs : List Sec) : Prop := ∃ ts : List Addr, H a = some (.lst (ts.map V.ref)) ∧ ts.length = secs.length ∧ ∀ (i : Nat) (t : Addr) (s : Sec), ts[i]? = some t → secs[i]? = some s → H t = some (.tup (secV s))
def spRuns : Sp := fun vs H Q _ => ∃ (u : Str) (bs : List Bool), vs = [.str u] ∧ u.cps.toList = bs.map letterC ∧ bs.length ≤ 1000 ∧ ∀ H' p, Same H H' → H p = none → RunsAt H' p (runsOf bs) → Q (.ref p) H'
def nRuns : List Str := ["units", "runs", "letter", "length"]
theorem scRuns : FnScope nRuns ["units"] (defScope sRuns) := ⟨rfl, rfl, rfl, by decide +kernel, rfl, by decide +kernel, by decide +kernel⟩
theorem letterS_eq (b : Bool) : (⟨#[letterC b]⟩ : Str) = letterS b := by cases b <;> decide +kernel
theorem letterS_inj (a b : Bool) : decide (V.str (letterS a) = V.str (letterS b)) = decide (a = b) := by cases a <;> cases b <;> decide +kernel
theorem snoc_of {α : Type} {l : List α} {m : Nat} (h : l.length = m + 1) : ∃ r x, l = r ++ [x] ∧ r.length = m := by
  have hne : l ≠ [] := fun z => by rw [z] at h; simp at h
  refine ⟨l.dropLast, l.getLast hne, (List.dropLast_concat_getLast hne).symm, ?_⟩
  rw [List.length_dropLast, h]
  rfl
structure RunsI (H H1 : Hp) (L : Addr) (acc : List Sec) (as : List Addr) : Prop where
  at_ : H1 L = some (.lst (as.map V.ref))
  len : as.length = acc.length
  nd : as.Nodup
  new : ∀ a ∈ as, H a = none ∧ a ≠ L
  it : ∀ (j : Nat) (a : Addr) (s : Sec), as[j]? = some a → acc[j]? = some s → H1 a = some (.lst [.str (letterS s.1), .int (s.2 : Nat)])
theorem RunsI.more {H H1 : Hp} {L : Addr} {acc : List Sec} {as : List Addr} (h : RunsI H H1 L acc as) (s1 : Same H H1) (hL : H L = none) {a : Addr} (ha : H1 a = none) (b : Bool) :
    RunsI H (upd (upd H1 a (.lst [.str (letterS b), .int 1])) L (.lst (as.map V.ref ++ [.ref a]))) L (acc ++ [(b, 1)]) (as ++ [a]) := by
  have naL : a ≠ L := fun z => by rw [z, h.at_] at ha; cases ha
  have nas : a ∉ as := fun z => by
    obtain ⟨j, hj⟩ := List.mem_iff_getElem?.mp z
    have hj2 : j < acc.length := by
      have := (List.getElem?_eq_some_iff.mp hj).1
      rw [← h.len]
      exact this
    have := h.it j a _ hj (List.getElem?_eq_getElem hj2)
    rw [ha] at this
    cases this
  refine ⟨by rw [upd_same, List.map_append]; rfl, by rw [List.length_append, List.length_append, h.len]; rfl, ?_, fun c hc => ?_, fun j c s e1 e2 => ?_⟩
  · rw [List.nodup_append]
    refine ⟨h.nd, by simp, fun x hx y hy => ?_⟩
    rw [List.mem_singleton.mp hy]
    exact fun z => nas (z ▸ hx)
  · rcases List.mem_append.mp hc with hc | hc
    · exact h.new c hc
    · rw [List.mem_singleton.mp hc]
      refine ⟨?_, naL⟩
      cases q : H a with
      | none => rfl
      | some o =>
        rw [s1 _ _ q] at ha
        cases ha
  · rcases Nat.lt_or_ge j as.length with lt | ge
    · rw [List.getElem?_append_left lt] at e1
      rw [List.getElem?_append_left (by rw [← h.len]; exact lt)] at e2
      have hc := List.mem_of_getElem? e1
      rw [upd_ne (h.new c hc).2, upd_ne (fun (z : c = a) => nas (by rw [← z]; exact hc))]
      exact h.it j c s e1 e2
    · rw [List.getElem?_append_right ge] at e1
      rw [List.getElem?_append_right (by rw [← h.len]; exact ge), ← h.len] at e2
      have e0 : j - as.length = 0 := by
        have := (List.getElem?_eq_some_iff.mp e1).1
        simp at this
        omega
      rw [e0] at e1 e2
      have e1 : a = c := by simpa using e1
      have e2 : (b, 1) = s := by simpa using e2
      subst e1 e2
      rw [upd_ne naL, upd_same]
      rfl
theorem RunsI.bump {H H1 : Hp} {L : Addr} {acc : List Sec} {as : List Addr} {k : Bool} {n : Nat} {a : Addr} (h : RunsI H H1 L (acc ++ [(k, n)]) (as ++ [a])) :
    RunsI H (upd H1 a (.lst [.str (letterS k), .int ((n : Nat) + 1)])) L (acc ++ [(k, n + 1)]) (as ++ [a]) := by
  have hl := h.len
  rw [List.length_append, List.length_append] at hl
  have hl : as.length = acc.length := by simpa using hl
  have na := h.new a (by simp)
  have nas : a ∉ as := fun z => by
    have := (List.nodup_append.mp h.nd).2.2 a z a (by simp)
    exact this rfl
  refine ⟨by rw [upd_ne na.2.symm]; exact h.at_, by simp [hl], h.nd, h.new, fun j c s e1 e2 => ?_⟩
  rcases Nat.lt_or_ge j as.length with lt | ge
  · rw [List.getElem?_append_left (by rw [← hl]; exact lt)] at e2
    have e1' := e1
    rw [List.getElem?_append_left lt] at e1'
    rw [upd_ne (fun (z : c = a) => nas (by rw [← z]; exact List.mem_of_getElem? e1'))]
    exact h.it j c s e1 (by rw [List.getElem?_append_left (by rw [← hl]; exact lt)]; exact e2)
  · rw [List.getElem?_append_right ge] at e1
    rw [List.getElem?_append_right (by rw [← hl]; exact ge), ← hl] at e2
    have e0 : j - as.length = 0 := by
      have := (List.getElem?_eq_some_iff.mp e1).1
      simp at this
      omega
    rw [e0] at e1 e2
    have e1 : a = c := by simpa using e1
    have e2 : (k, n + 1) = s := by simpa using e2
    subst e1 e2
    rw [upd_same]
    rfl
theorem ok_runs {f C lp kp : Addr} {fd : FuncData} (F : Fb K mg "_runs" sRuns ["units"] f fd) (R : RoadT K w mg C lp kp) : FnOk P w K mg base CX0 1 f fd ["units"] spRuns := by
  refine F.fn.ok scRuns (fun vs H Q E h => ?_) (fun cdv A outer s H vs Q E hr h => ?_)
  · obtain ⟨u, bs, rfl, _⟩ := h
    rfl
  · obtain ⟨u, bs, rfl, hu, hlen, k⟩ := h
    have nd := scRuns.nd
    refine ⟨_, pss_cons (ps_set (i := 1) nd rfl (.inl rfl) (pe_lst pa_nil))
      (pss_cons (ps_for PassesOwn.never rfl (pi_str (pv 0)) (pg_name (i := 2) nd rfl (.inl rfl))
        (pss_one (ps_if (PW.pt (pw_and (pt_truth (pv 1) (by intro _; rfl)) (pw_and1 (pt_cmpR op_eq (pe_ix ix_list (pe_ix ix_list (pv 1) (pe_un un_neg pe_int) (fun _ _ => rfl)) pe_int (fun _ _ => rfl)) (pv 2) (nomark _)))))
          (pss_one (ps_augS (pe_ix ix_list (pv 1) (pe_un un_neg pe_int) (fun _ _ => rfl)) pe_int pg_list pe_int ip_add set_list))
          (pss_one (ps_expr (pe_bm PySem.F.plainAttrs_list PySem.F.slot_list_append PySem.F.type_list_append mt_append (pv 1) (pa_cons (pe_lst (pa_cons (pv 2) (pa_cons pe_int pa_nil))) pa_nil)))))))
      (pss_one (ps_ret (pe_lc (own := [("letter", 2), ("length", 3)]) (g := gUnl K 2 (gCons (gName 2) (gCons (gName 3) gNil))) (tt := tYes) (te := tTup (tCons (tKGet1 K w (tC (.ref kp)) (tVar 2)) (tCons (tVar 3) tNil))) (by rfl) nd (pi_list (pv 1)) (blkOk_by (N := nRuns) (sc := defScope sRuns) (by decide +kernel))
        (fun _ _ _ _ _ => pg_unl rfl (pgs_cons (pg_name (i := 2) nd rfl (Or.inl rfl)) (pgs_cons (pg_name (i := 3) nd rfl (Or.inl rfl)) pgs_nil))) (fun _ _ _ _ _ => pts_nil)
        (fun _ _ _ _ _ => pe_tup (pa_cons (pe_kget1 (pe_glob (v := .ref kp) (by rfl) R.mgK rfl) (pv 2) ⟨rfl, rfl, rfl, rfl⟩) (pa_cons (pv 3) pa_nil))))))), ?_⟩
    refine ⟨Nat.zero_le _, fun L hL => ?_⟩
    have s0 : Same H (upd H L (.lst [])) := fun b o e => by rw [upd_ne (ne_of_none e hL)]; exact e
    have hsz : u.cps.size = bs.length := by
      have := congrArg List.length hu
      simpa using this
    refine ⟨_, rfl, u, rfl, for_it walk_str (fun i σ H1 => ∃ v2 as, σ = [some (.str u), some (.ref L), v2, none] ∧ Same H H1 ∧ RunsI H H1 L (runsOf (bs.take i)) as)
      ⟨none, [], rfl, s0, upd_same, rfl, by simp, fun a ha => by simp at ha, fun j a s e => by simp at e⟩ (fun _ _ _ _ _ => True.intro) ?_ ?_⟩
    · rintro i x σ H1 H2 hi ⟨v2, as, rfl, s1, I⟩ ⟨e, c, hc, ex⟩
      subst e
      have hib : i < bs.length := by rw [hsz] at hi; exact hi
      obtain ⟨b, hb⟩ : ∃ b, bs[i]? = some b := ⟨_, List.getElem?_eq_getElem hib⟩
      have ecb : c = letterC b := by
        have h1 : u.cps.toList[i]? = some c := by simpa using hc
        rw [hu, List.getElem?_map, hb] at h1
        exact (Option.some.inj h1).symm
      rw [ecb, letterS_eq] at ex
      subst ex
      rw [tk1 hb, runsOf_snoc]
      have hlen2 : (runsOf (bs.take i)).length ≤ 1000 := Nat.le_trans (runsOf_len _) (by rw [List.length_take]; omega)
      generalize runsOf (bs.take i) = acc at *
      cases hl : acc.getLast? with
      | none =>
        have ea : acc = [] := List.getLast?_eq_none_iff.mp hl
        subst ea
        have eas : as = [] := List.length_eq_zero_iff.mp I.len
        subst eas
        have er : rstep [] b = [(b, 1)] := rfl
        rw [er]
        have hat := I.at_
        refine ⟨_, rfl, false, .inl ⟨_, SqL.of hat, rfl⟩, iteF ?_⟩
        refine iteF ?_
        refine ⟨_, rfl, .inl ⟨rfl, _, SqL.of hat⟩, _, rfl, by show 2 ≤ sizeLine; decide, fun a ha => ?_⟩
        have naL : L ≠ a := ne_of_none hat ha
        refine ⟨L, _, .ref a, rfl, rfl, by rw [upd_ne naL]; exact hat, by show 0 < sizeLine; decide, ?_⟩
        exact ⟨_, [a], rfl, fun b' o e => by rw [upd_ne (ne_of_none e hL), upd_ne (ne_of_none (s1 _ _ e) ha)]; exact s1 _ _ e, I.more s1 hL ha b⟩
      | some r =>
        obtain ⟨k', n⟩ := r
        obtain ⟨acc', ea⟩ := List.getLast?_eq_some_iff.mp hl
        subst ea
        obtain ⟨as', a, eas, hl'⟩ := snoc_of (l := as) (m := acc'.length) (by rw [I.len]; simp)
        subst eas
        have hat := I.at_
        have hat2 : H2 L = some (.lst (as'.map V.ref ++ [V.ref a])) := by rw [hat, List.map_append]; rfl
        have ha := I.it acc'.length a (k', n) (by rw [← hl']; simp) (by simp)
        refine ⟨_, rfl, true, .inl ⟨_, SqL.of hat2, by simp⟩, iteT ?_⟩
        refine ⟨_, rfl, _, rfl, L, _, _, .ref a, rfl, rfl, SqL.of hat2, atI_last _ _, a, _, _, _, rfl, rfl, SqL.of ha, rfl, _, rfl, rfl, _, rfl, ?_⟩
        rw [letterS_inj]
        by_cases hk : k' = b
        · rw [decide_eq_true hk]
          refine iteT ?_
          have er : rstep (acc' ++ [(k', n)]) b = acc' ++ [(k', n + 1)] := by
            unfold rstep
            rw [hl]
            simp [hk]
          rw [er]
          refine ⟨_, rfl, _, rfl, L, _, _, .ref a, rfl, rfl, SqL.of hat2, atI_last _ _, a, _, _, _, rfl, rfl, SqL.of ha, rfl, _, _, rfl, rfl, a, _, _, 1, rfl, rfl, ha, rfl, ?_⟩
          have na := I.new a (by simp)
          exact ⟨_, _, rfl, fun b' o e => by rw [upd_ne (ne_of_none e na.1)]; exact s1 _ _ e, I.bump⟩
        · rw [decide_eq_false hk]
          refine iteF ?_
          have er : rstep (acc' ++ [(k', n)]) b = acc' ++ [(k', n)] ++ [(b, 1)] := by
            unfold rstep
            rw [hl]
            simp [hk]
          rw [er]
          refine ⟨_, rfl, .inl ⟨rfl, _, SqL.of hat⟩, _, rfl, by show 2 ≤ sizeLine; decide, fun a2 ha2 => ?_⟩
          have naL : L ≠ a2 := ne_of_none hat ha2
          refine ⟨L, _, .ref a2, rfl, rfl, by rw [upd_ne naL]; exact hat, ?_, ?_⟩
          · rw [List.length_map, I.len]
            exact small1000 hlen2
          · exact ⟨_, as' ++ [a] ++ [a2], rfl, fun b' o e => by rw [upd_ne (ne_of_none e hL), upd_ne (ne_of_none (s1 _ _ e) ha2)]; exact s1 _ _ e, I.more s1 hL ha2 b⟩
    · rintro σ H1 ⟨v2, as, rfl, s1, I⟩
      have e9 : bs.take u.cps.size = bs := by rw [hsz, List.take_length]
      rw [e9] at I
      have hlen2 := runsOf_len bs
      generalize runsOf bs = acc at *
      refine ⟨_, rfl, L, rfl, ⟨_, SqL.of I.at_⟩, fun D hD => ?_⟩
      have hL1 := I.at_
      have nDL : L ≠ D := ne_of_none hL1 hD
      have hlz : (as.map V.ref).length = acc.length := by rw [List.length_map, I.len]
      refine lc_it walk_list (fun i H2 => Same H1 H2 ∧ ∃ ts : List Addr, H2 D = some (.lst (ts.map V.ref)) ∧ ts.length = i ∧ ∀ (j : Nat) (t : Addr) (s : Sec), ts[j]? = some t → acc[j]? = some s → H2 t = some (.tup (secV s)))
        ⟨fun b o e => by rw [upd_ne (ne_of_none e hD)]; exact e, [], upd_same, rfl, fun j t s e => by simp at e⟩ (fun i H2 _ ⟨k2, _⟩ => SqL.of (k2 _ _ hL1)) ?_ ?_
      · rintro i y H2 H3 hi ⟨k2, ts, hD2, lts, hts⟩ ⟨e, hy⟩
        subst e
        have hic : i < acc.length := by rw [hlz] at hi; exact hi
        obtain ⟨a, ha, rfl⟩ : ∃ a, as[i]? = some a ∧ y = V.ref a := by
          rw [List.getElem?_map] at hy
          obtain ⟨t, z1, z2⟩ := Option.map_eq_some_iff.mp hy
          exact ⟨t, z1, z2.symm⟩
        have hc : acc[i]? = some acc[i] := List.getElem?_eq_getElem hic
        have hal := k2 _ _ (I.it i a _ ha hc)
        have hkd : KDct K w kp (letterS acc[i].1) (.str (kindS acc[i].1)) := by
          cases acc[i].1
          · exact R.kN
          · exact R.kW
        refine ⟨a, _, rfl, SqL.of hal, rfl, _, _, rfl, _, _, rfl, rfl, rfl, yes_of ?_⟩
        refine ⟨kp, rfl, R.kM, ⟨_, _, R.kN⟩, _, rfl, _, _, rfl, hkd, _, rfl, by show 2 ≤ sizeLine; decide, fun t ht => ?_⟩
        have nDt : D ≠ t := ne_of_none hD2 ht
        refine ⟨_, by rw [upd_ne nDt]; exact hD2, by rw [List.length_map, lts]; exact small1000 (by omega), fun b o e => ?_, ts ++ [t], by rw [upd_same, List.map_append]; rfl, by rw [List.length_append, lts]; rfl, fun j t2 s e1 e2 => ?_⟩
        · rw [upd_ne (ne_of_none e hD), upd_ne (ne_of_none (k2 _ _ e) ht)]
          exact k2 _ _ e
        · rcases Nat.lt_or_ge j ts.length with lt | ge
          · rw [List.getElem?_append_left lt] at e1
            have q := hts j t2 s e1 e2
            rw [upd_ne (ne_of q hD2 (by intro z; cases z)), upd_ne (ne_of_none q ht)]
            exact q
          · rw [List.getElem?_append_right ge] at e1
            have e0 : j - ts.length = 0 := by
              have := (List.getElem?_eq_some_iff.mp e1).1
              simp at this
              omega
            rw [e0] at e1
            have e1 : t = t2 := by simpa using e1
            subst e1
            have ej : j = i := by omega
            rw [ej, hc] at e2
            cases e2
            rw [upd_ne nDt.symm, upd_same]
            rfl
      · rintro H2 ⟨k2, ts, hD2, lts, hts⟩
        have hD0 : H D = none := by
          cases q : H D with
          | none => rfl
          | some o =>
            rw [s1 _ _ q] at hD
            cases hD
        exact k H2 D (s1.trans k2) hD0 ⟨ts, hD2, by rw [lts, hlz], hts⟩
end
end Sl

set_option Elab.async false
set_option linter.all false
set_option maxRecDepth 100000
set_option maxHeartbeats 1000000
namespace Sl
open PySem PySem.Spec L2 OwnR LamX
abbrev spRInit (C : Addr) : Sp := fun vs H Q E => ∃ ws rest, vs = ws ++ rest ∧ ws.length = (["self"] : List Str).length ∧ rest.length ≤ sizeLine ∧ ∀ p, H p = Option.none → spRInit0 C (ws ++ [V.ref p]) (upd H p (.tup rest)) Q E
section
variable {P : Program} {w : World} {K : PySem.W.Frag} {mg : Str → Option Value} {base : Heap}
def spOfUnits (C : Addr) : Sp := fun vs H Q _ => ∃ (u : Str) (bs : List Bool), vs = [.ref C, .str u] ∧ u.cps.toList = bs.map letterC ∧ bs.length ≤ 1000 ∧ SecsOk (runsOf bs) ∧ ∀ H' p, Same H H' → H p = none → RoadAt C H' p (runsOf bs) → Q (.ref p) H'
theorem scOfUnits : FnScope ["cls", "units", "sections"] ["cls", "units"] (defScope sROfUnits) := ⟨rfl, rfl, rfl, by decide +kernel, rfl, by decide +kernel, by decide +kernel⟩
theorem ok_ofUnits {f fI fR C lp kp : Addr} {fd dR : FuncData} (F : Fun K "of_units" "Road.of_units" sROfUnits f fd) (M : Mg mg) (R : RoadT K w mg C lp kp) (MK : Mk K C fI) (BR : Fb K mg "_runs" sRuns ["units"] fR dR)
    (GR : FnOk P w K mg base CX0 1 fR dR ["units"] spRuns) (GI : FnR P w K mg base CX0 3 fI (spRInit C)) : FnOk P w K mg base CX0 5 f fd ["cls", "units"] (spOfUnits C) := by
  refine F.ok scOfUnits (fun vs H Q E h => ?_) (fun cdv A outer s H vs Q E hr h => ?_)
  · obtain ⟨u, bs, rfl, _⟩ := h
    rfl
  · obtain ⟨u, bs, rfl, hu, hlen, S, k⟩ := h
    have nd := scOfUnits.nd
    refine ⟨_, pss_cons (ps_if (pt_not (pt_val (pe_callB call_isi (by rfl) M.isinstance boot_isinstance (pa_cons (pv 1) (pa_cons (pe_bltn (v := .ty "str") (by rfl) M.str boot_tStr rfl) pa_nil))))) (pss_one ps_never) pss_nil)
      (pss_cons (ps_set (i := 2) nd rfl (.inl rfl) (pe_call GR (hr.mono (by decide)) (by rfl) BR.at_ BR.fn.kp BR.bd .nil pass0 (pa_cons (pv 1) pa_nil)))
      (pss_one (ps_ret (pe_makeLS MK GI hr pass0 (pv 0) (pv 2))))), ?_⟩
    refine ⟨_, rfl, _, _, _, _, true, rfl, .ty _, .base (.str u), kit_ty (by decide +kernel), true, rfl, iteF ?_⟩
    refine ⟨_, rfl, u, bs, rfl, hu, hlen, fun H1 p s1 hp ⟨ts, h1, h2, h3⟩ => ?_⟩
    refine ⟨_, rfl, rfl, _, rfl, p, ts.map V.ref, rfl, .inr (SqL.of h1), fun x dx hx hdx ne => ?_⟩
    refine ⟨[.ref x], ts.map V.ref, rfl, rfl, by rw [List.length_map, h2]; have := S.few; exact Nat.le_of_lt (small1000 (by omega)), fun t ht => ?_⟩
    have hxt : x ≠ t := fun z => by
      rw [← z, upd_same] at ht
      cases ht
    have old : ∀ b o, H1 b = some o → (upd (upd (upd H1 dx (.own x)) x (.ins C dx [])) t (.tup (ts.map V.ref))) b = some o := fun b o e => by
      have e2 : (upd (upd H1 dx (.own x)) x (.ins C dx [])) b = some o := by
        rw [upd_ne (ne_of_none e hx), upd_ne (ne_of_none e hdx)]
        exact e
      rw [upd_ne (ne_of_none e2 ht)]
      exact e2
    refine ⟨x, dx, t, runsOf bs, rfl, by rw [upd_ne hxt, upd_same], ⟨ts, upd_same, h2, fun i a s e1 e2 => old _ _ (h3 i a s e1 e2)⟩, S, fun H2 us kp hX hus => ⟨rfl, ?_⟩⟩
    refine k H2 x (fun b o e => kp b o (old _ _ (s1 _ _ e)) (ne_of_none (s1 _ _ e) hx)) ?_ ⟨dx, t, us, hX, ⟨ts, ?_, h2, fun i a s e1 e2 => ?_⟩, hus⟩
    · cases q : H x with
      | none => rfl
      | some o =>
        rw [s1 _ _ q] at hx
        cases hx
    · exact kp _ _ upd_same hxt.symm
    · have q := h3 i a s e1 e2
      exact kp _ _ (old _ _ q) (ne_of_none q hx)
end
end Sl

/-! Driving, place by place. -/
namespace Sl
open OwnR
section
variable {N : Type} [DecidableEq N]
/-- the cars at a place: their order, their ticks -/
structure Pl (N : Type) where
  ord : List N
  tk : N → Int
def freeP (pace : N → Int) (p : Pl N) (len : Nat) (n : N) : Int := p.tk n + pace n * (len : Int)
def stepP (pace : N → Int) (p : Pl N) (s : Bool × Nat) : Pl N :=
  if s.1 then ⟨sortBy (freeP pace p s.2) p.ord, freeP pace p s.2⟩ else ⟨p.ord, tickOf (foll (freeP pace p s.2) p.ord)⟩
def leadP (pace : N → Int) (p : Pl N) (s : Bool × Nat) (n : N) : Option N := if s.1 then none else leadOf (foll (freeP pace p s.2) p.ord) n
def plc (pace : N → Int) (p0 : Pl N) (secs : List (Bool × Nat)) (k : Nat) : Pl N := (secs.take k).foldl (stepP pace) p0
theorem plc_zero (pace : N → Int) (p0 : Pl N) (secs : List (Bool × Nat)) : plc pace p0 secs 0 = p0 := rfl
theorem plc_succ (pace : N → Int) (p0 : Pl N) (secs : List (Bool × Nat)) {k : Nat} {s : Bool × Nat} (h : secs[k]? = some s) : plc pace p0 secs (k + 1) = stepP pace (plc pace p0 secs k) s := by
  unfold plc
  rw [List.take_add_one, h, List.foldl_append]
  rfl
/-- the leader in the section k -/
def ldr (pace : N → Int) (p0 : Pl N) (secs : List (Bool × Nat)) (k : Nat) (n : N) : Option N := match secs[k]? with
  | none => none
  | some s => leadP pace (plc pace p0 secs k) s n
theorem stepP_perm (pace : N → Int) (p : Pl N) (s : Bool × Nat) : (stepP pace p s).ord.Perm p.ord := by
  unfold stepP
  split
  · exact sortBy_perm _ _
  · exact List.Perm.refl _
theorem fold_perm (pace : N → Int) : ∀ (l : List (Bool × Nat)) (p : Pl N), (l.foldl (stepP pace) p).ord.Perm p.ord
  | [], _ => List.Perm.refl _
  | s :: r, p => (fold_perm pace r (stepP pace p s)).trans (stepP_perm pace p s)
theorem plc_perm (pace : N → Int) (p0 : Pl N) (secs : List (Bool × Nat)) (k : Nat) : (plc pace p0 secs k).ord.Perm p0.ord := fold_perm pace _ p0
end
end Sl

set_option Elab.async false
set_option linter.all false
set_option maxRecDepth 100000
set_option maxHeartbeats 1000000
namespace Sl
open PySem PySem.Spec L2 OwnR LamX
/-! ### a Drive's attributes -/
theorem k_ps : ¬ (("_paces" : Str) = "_sections") := by decide +kernel
theorem k_ts : ¬ (("_ticks" : Str) = "_sections") := by decide +kernel
theorem k_tp : ¬ (("_ticks" : Str) = "_paces") := by decide +kernel
theorem k_os : ¬ (("_orders" : Str) = "_sections") := by decide +kernel
theorem k_op : ¬ (("_orders" : Str) = "_paces") := by decide +kernel
theorem k_ot : ¬ (("_orders" : Str) = "_ticks") := by decide +kernel
theorem k_ls : ¬ (("_leaders" : Str) = "_sections") := by decide +kernel
theorem k_lp : ¬ (("_leaders" : Str) = "_paces") := by decide +kernel
theorem k_lt : ¬ (("_leaders" : Str) = "_ticks") := by decide +kernel
theorem k_lo : ¬ (("_leaders" : Str) = "_orders") := by decide +kernel
def df1 (sc : Addr) : List (Str × V) := putF "_sections" (.ref sc) []
def df2 (sc pd : Addr) : List (Str × V) := putF "_paces" (.ref pd) (df1 sc)
def df3 (sc pd lt : Addr) : List (Str × V) := putF "_ticks" (.ref lt) (df2 sc pd)
def df4 (sc pd lt lo : Addr) : List (Str × V) := putF "_orders" (.ref lo) (df3 sc pd lt)
def df5 (sc pd lt lo ll : Addr) : List (Str × V) := putF "_leaders" (.ref ll) (df4 sc pd lt lo)
section
variable (sc pd lt lo ll : Addr)
theorem df2_paces : (df2 sc pd).lookup ("_paces" : Str) = some (.ref pd) := by unfold df2; rw [lookup_putF, if_pos rfl]
theorem df3_ticks : (df3 sc pd lt).lookup ("_ticks" : Str) = some (.ref lt) := by unfold df3; rw [lookup_putF, if_pos rfl]
theorem df3_paces : (df3 sc pd lt).lookup ("_paces" : Str) = some (.ref pd) := by unfold df3; rw [lookup_putF, if_neg (Ne.symm k_tp)]; exact df2_paces sc pd
theorem df5_sections : (df5 sc pd lt lo ll).lookup ("_sections" : Str) = some (.ref sc) := by
  unfold df5 df4 df3 df2 df1
  rw [lookup_putF, if_neg (Ne.symm k_ls), lookup_putF, if_neg (Ne.symm k_os), lookup_putF, if_neg (Ne.symm k_ts), lookup_putF, if_neg (Ne.symm k_ps), lookup_putF, if_pos rfl]
theorem df5_paces : (df5 sc pd lt lo ll).lookup ("_paces" : Str) = some (.ref pd) := by
  unfold df5 df4
  rw [lookup_putF, if_neg (Ne.symm k_lp), lookup_putF, if_neg (Ne.symm k_op)]
  exact df3_paces sc pd lt
theorem df5_ticks : (df5 sc pd lt lo ll).lookup ("_ticks" : Str) = some (.ref lt) := by
  unfold df5 df4
  rw [lookup_putF, if_neg (Ne.symm k_lt), lookup_putF, if_neg (Ne.symm k_ot)]
  exact df3_ticks sc pd lt
theorem df5_orders : (df5 sc pd lt lo ll).lookup ("_orders" : Str) = some (.ref lo) := by
  unfold df5 df4
  rw [lookup_putF, if_neg (Ne.symm k_lo), lookup_putF, if_pos rfl]
theorem df5_leaders : (df5 sc pd lt lo ll).lookup ("_leaders" : Str) = some (.ref ll) := by
  unfold df5
  rw [lookup_putF, if_pos rfl]
theorem df5_no {m : Str} (h1 : ¬ m = "_sections") (h2 : ¬ m = "_paces") (h3 : ¬ m = "_ticks") (h4 : ¬ m = "_orders") (h5 : ¬ m = "_leaders") : (df5 sc pd lt lo ll).lookup m = none := by
  unfold df5 df4 df3 df2 df1
  rw [lookup_putF, if_neg h5, lookup_putF, if_neg h4, lookup_putF, if_neg h3, lookup_putF, if_neg h2, lookup_putF, if_neg h1]
  rfl
theorem df1_len : (df1 sc).length = 1 := rfl
theorem putF_len (f : Str) (v : V) : ∀ l : List (Str × V), (putF f v l).length ≤ l.length + 1
  | [] => by simp [putF]
  | (g, x) :: r => by
    unfold putF
    split
    · simp
    · have := putF_len f v r
      simp
      omega
end
/-! ### cars as functions of their names -/
def names (cars : List Car) : List Str := cars.map (·.name)
def paceOf (cars : List Car) (n : Str) : Int := ((cars.find? fun c => decide (c.name = n)).map (·.pace)).getD 0
def startOf (cars : List Car) (n : Str) : Int := ((cars.find? fun c => decide (c.name = n)).map (·.start)).getD 0
def pl0 (cars : List Car) : Pl Str := ⟨sortBy (startOf cars) (names cars), startOf cars⟩
abbrev plcC (secs : List Sec) (cars : List Car) (k : Nat) : Pl Str := plc (paceOf cars) (pl0 cars) secs k
abbrev ldrC (secs : List Sec) (cars : List Car) (k : Nat) (n : Str) : Option Str := ldr (paceOf cars) (pl0 cars) secs k n
theorem find_car {cars : List Car} (nd : (names cars).Nodup) {c : Car} (h : c ∈ cars) : cars.find? (fun d => decide (d.name = c.name)) = some c := by
  induction cars with
  | nil => cases h
  | cons a l ih =>
    unfold names at nd
    rw [List.map_cons, List.nodup_cons] at nd
    rcases List.mem_cons.mp h with e | h
    · subst e
      simp
    · have hne : ¬ a.name = c.name := fun z => nd.1 (by rw [z]; exact List.mem_map.mpr ⟨c, h, rfl⟩)
      rw [List.find?_cons, decide_eq_false hne]
      exact ih nd.2 h
theorem paceOf_car {cars : List Car} (nd : (names cars).Nodup) {c : Car} (h : c ∈ cars) : paceOf cars c.name = c.pace := by
  unfold paceOf
  rw [find_car nd h]
  rfl
theorem startOf_car {cars : List Car} (nd : (names cars).Nodup) {c : Car} (h : c ∈ cars) : startOf cars c.name = c.start := by
  unfold startOf
  rw [find_car nd h]
  rfl
theorem pl0_perm (cars : List Car) : (pl0 cars).ord.Perm (names cars) := sortBy_perm _ _
theorem plcC_perm (secs : List Sec) (cars : List Car) (k : Nat) : (plcC secs cars k).ord.Perm (names cars) := (plc_perm _ _ _ _).trans (pl0_perm cars)
/-- the dict of the paces -/
def paceK (cars : List Car) : List (Key × V) := cars.map fun c => (Sum.inr c.name, V.int c.pace)
theorem valV_names {g : Car → V} {cars : List Car} (nd : (names cars).Nodup) {c : Car} (h : c ∈ cars) : valV (cars.map fun c => ((Sum.inr c.name : Key), g c)) (Sum.inr c.name : Key) = some (g c) := by
  induction cars with
  | nil => cases h
  | cons a l ih =>
    unfold names at nd
    rw [List.map_cons, List.nodup_cons] at nd
    rcases List.mem_cons.mp h with e | h
    · subst e
      exact valV_pos rfl
    · have hne : ¬ (Sum.inr a.name : Key) = Sum.inr c.name := fun z => nd.1 (by rw [Sum.inr.inj z]; exact List.mem_map.mpr ⟨c, h, rfl⟩)
      rw [List.map_cons, valV_neg hne]
      exact ih nd.2 h
theorem paceK_get {cars : List Car} (nd : (names cars).Nodup) {n : Str} (h : n ∈ names cars) : valV (paceK cars) (Sum.inr n : Key) = some (.int (paceOf cars n)) := by
  obtain ⟨c, hc, rfl⟩ := List.mem_map.mp h
  rw [paceOf_car nd hc]
  exact valV_names (g := fun c => V.int c.pace) nd hc
/-! ### a Drive of which m sections are driven -/
structure DW where
  dx : Addr
  sc : Addr
  pd : Addr
  lt : Addr
  lo : Addr
  ll : Addr
  tds : List Addr
  ods : List Addr
  lds : List Addr
structure DP (C : Addr) (H0 H : Hp) (p : Addr) (secs : List Sec) (cars : List Car) (m : Nat) (W : DW) : Prop where
  ext : ExtN H0 H
  ins : H p = some (.ins C W.dx (df5 W.sc W.pd W.lt W.lo W.ll))
  sec : SecsAt H W.sc secs
  pac : H W.pd = some (.dK (paceK cars))
  lt : H W.lt = some (.lst (W.tds.map V.ref))
  ltl : W.tds.length = m + 1
  lo : H W.lo = some (.lst (W.ods.map V.ref))
  lol : W.ods.length = m + 1
  ll : H W.ll = some (.lst (W.lds.map V.ref))
  lll : W.lds.length = m
  tk : ∀ (k : Nat) (d : Addr), W.tds[k]? = some d → ∃ kv, H d = some (.dK kv) ∧ ∀ n ∈ names cars, valV kv (Sum.inr n : Key) = some (.int ((plcC secs cars k).tk n))
  od : ∀ (k : Nat) (d : Addr), W.ods[k]? = some d → H d = some (.lst ((plcC secs cars k).ord.map V.str))
  ld : ∀ (k : Nat) (d : Addr), W.lds[k]? = some d → ∃ kv, H d = some (.dK kv) ∧ ∀ n, valV kv (Sum.inr n : Key) = (ldrC secs cars k n).map V.str
  newp : New H0 p
  newt : New H0 W.lt
  newo : New H0 W.lo
  newl : New H0 W.ll
  newg : ∀ d ∈ W.lds, New H0 d
  nto : W.lt ≠ W.lo
  ntl : W.lt ≠ W.ll
  nol : W.lo ≠ W.ll
  odn : ∀ d ∈ W.ods, d ≠ W.lt ∧ d ≠ W.lo ∧ d ≠ W.ll
theorem DP.step {C : Addr} {H0 H H' : Hp} {p : Addr} {secs : List Sec} {cars : List Car} {m : Nat} {W : DW} (D : DP C H0 H p secs cars m W) (e : ExtN H H') : DP C H0 H' p secs cars m W where
  ext := D.ext.trans e
  ins := ExtN.ins e D.ins
  sec := D.sec.ext e
  pac := ExtN.dK e D.pac
  lt := ExtN.lst e D.lt
  ltl := D.ltl
  lo := ExtN.lst e D.lo
  lol := D.lol
  ll := ExtN.lst e D.ll
  lll := D.lll
  tk := fun k d h => let ⟨kv, a, b⟩ := D.tk k d h; ⟨kv, ExtN.dK e a, b⟩
  od := fun k d h => ExtN.lst e (D.od k d h)
  ld := fun k d h => let ⟨kv, a, b⟩ := D.ld k d h; ⟨kv, ExtN.dK e a, b⟩
  newp := D.newp
  newt := D.newt
  newo := D.newo
  newl := D.newl
  newg := D.newg
  nto := D.nto
  ntl := D.ntl
  nol := D.nol
  odn := D.odn
/-- the lists of a drive of which m sections are driven, wherever they stand -/
structure DL (H0 H : Hp) (secs : List Sec) (cars : List Car) (m : Nat) (W : DW) : Prop where
  ext : ExtN H0 H
  lt : H W.lt = some (.lst (W.tds.map V.ref))
  ltl : W.tds.length = m + 1
  lo : H W.lo = some (.lst (W.ods.map V.ref))
  lol : W.ods.length = m + 1
  ll : H W.ll = some (.lst (W.lds.map V.ref))
  lll : W.lds.length = m
  tk : ∀ (k : Nat) (d : Addr), W.tds[k]? = some d → ∃ kv, H d = some (.dK kv) ∧ ∀ n ∈ names cars, valV kv (Sum.inr n : Key) = some (.int ((plcC secs cars k).tk n))
  od : ∀ (k : Nat) (d : Addr), W.ods[k]? = some d → H d = some (.lst ((plcC secs cars k).ord.map V.str))
  ld : ∀ (k : Nat) (d : Addr), W.lds[k]? = some d → ∃ kv, H d = some (.dK kv) ∧ ∀ n, valV kv (Sum.inr n : Key) = (ldrC secs cars k n).map V.str
  newt : New H0 W.lt
  newo : New H0 W.lo
  newl : New H0 W.ll
  newg : ∀ d ∈ W.lds, New H0 d
  nto : W.lt ≠ W.lo
  ntl : W.lt ≠ W.ll
  nol : W.lo ≠ W.ll
  odn : ∀ d ∈ W.ods, d ≠ W.lt ∧ d ≠ W.lo ∧ d ≠ W.ll
theorem DL.step {H0 H H' : Hp} {secs : List Sec} {cars : List Car} {m : Nat} {W : DW} (D : DL H0 H secs cars m W) (e : ExtN H H') : DL H0 H' secs cars m W where
  ext := D.ext.trans e
  lt := ExtN.lst e D.lt
  ltl := D.ltl
  lo := ExtN.lst e D.lo
  lol := D.lol
  ll := ExtN.lst e D.ll
  lll := D.lll
  tk := fun k d h => let ⟨kv, a, b⟩ := D.tk k d h; ⟨kv, ExtN.dK e a, b⟩
  od := fun k d h => ExtN.lst e (D.od k d h)
  ld := fun k d h => let ⟨kv, a, b⟩ := D.ld k d h; ⟨kv, ExtN.dK e a, b⟩
  newt := D.newt
  newo := D.newo
  newl := D.newl
  newg := D.newg
  nto := D.nto
  ntl := D.ntl
  nol := D.nol
  odn := D.odn
/-- the dict of the starts -/
def startK (cars : List Car) : List (Key × V) := cars.map fun c => (Sum.inr c.name, V.int c.start)
theorem startK_get {cars : List Car} (nd : (names cars).Nodup) {n : Str} (h : n ∈ names cars) : valV (startK cars) (Sum.inr n : Key) = some (.int (startOf cars n)) := by
  obtain ⟨c, hc, rfl⟩ := List.mem_map.mp h
  rw [startOf_car nd hc]
  exact valV_names (g := fun c => V.int c.start) nd hc
theorem startK_keys (cars : List Car) : (startK cars).map (fun kv => kV kv.1) = (names cars).map V.str := by
  unfold startK names
  rw [List.map_map, List.map_map]
  rfl
end Sl

set_option Elab.async false
set_option linter.all false
set_option maxRecDepth 100000
set_option maxHeartbeats 2000000
namespace OwnR
open PySem PySem.Spec PyProof.Rows L2
/-! ### y = {k: v for x in xs} as a statement -/
theorem ps_setDc {X : Cx} {i : Nat} {y : Str} {py : Pos} {kx vx tg iter : Expr} {ifs : List Expr} {scope : Scope} {own : List (Str × Nat)} {pos spos : Pos} {wi : TI} {g : TG} {tt : TT} {tk tv : TE} (hc : X.calm = true) (hN : X.N.Nodup) (hy : X.N[i]? = some y) (hyl : X.env.scope.names.lookup y = some .local)
    (hsw : swapsWith (.DictComp kx vx [⟨tg, iter, ifs, 0⟩] scope pos) (some (.Name y py)) spos.line X.env = pure true) (hi : PI X tg iter wi) (ok : BlkOk X.N X.env.scope scope own)
    (hg : ∀ (s : Shared) (H : Hp) (C : Addr) (cl : List (Str × Addr)) (fp : List Addr), PG (X.blk s H scope (compEnvC scope cl C X.env) fp) tg g)
    (ht : ∀ (s : Shared) (H : Hp) (C : Addr) (cl : List (Str × Addr)) (fp : List Addr), PTs (X.blk s H scope (compEnvC scope cl C X.env) fp) ifs tt)
    (hk : ∀ (s : Shared) (H : Hp) (C : Addr) (cl : List (Str × Addr)) (fp : List Addr), PE (X.blk s H scope (compEnvC scope cl C X.env) fp) kx tk)
    (hv : ∀ (s : Shared) (H : Hp) (C : Addr) (cl : List (Str × Addr)) (fp : List Addr), PE (X.blk s H scope (compEnvC scope cl C X.env) fp) vx tv) (hs : ∀ x, foldedSetIterable iter X.env x = pure x := by intro _; rfl) :
    PS X (.Assign [.Name y py] (.DictComp kx vx [⟨tg, iter, ifs, 0⟩] scope pos) spos) (tAsg (tDc wi g tt tk tv (own.map (·.2))) (gName i)) := by
  refine ⟨fun pins s σ H D I h => ?_⟩
  have h' : tDc wi g tt tk tv (own.map (·.2)) σ H (fun x H1 => gName i x σ H1 D.nx) := h
  rw [exec_Assign_Name_used _ _ _ _ hsw]
  refine wpAny_bind (wpAny_standAt (wpAny_bind ?_))
  show wpAny _ X.A (do let _ ← comprehension (.DictComp kx vx [⟨tg, iter, ifs, 0⟩] scope pos) scope X.env (firstIterPos [⟨tg, iter, ifs, 0⟩] pos) newDict false (eval iter X.env) (some (assign (.Name y py) X.env))) _ _ s
  refine wpAny_bind (thn (dc_core (Qf := fun _ s' => SP X pins D .next s') hc hN I hi ok hg ht hk hv hs h' fun Dn C s' m H' J q hn f => ?_) fun _ s' hq => wpAny_pure (wpAny_pure hq))
  obtain ⟨f0, f1, f2, f3, f4, f5⟩ := f
  show wpAny _ _ (assign (.Name y py) X.env (.ref Dn)) _ _ _
  refine wpAny_assign_Name (store_ok2 (v := V.ref Dn) J hN hy (.inl hyl) rfl (fun s2 J2 ⟨a, sb, ha⟩ => ?_) (.inr hyl))
  have nCa : C ≠ a := ha.elim (fun z => by rw [z]; exact f1) fun z => fun e => f4 y a z e.symm
  exact ⟨m, hn.sameBut sb nCa, fun h3 sb3 => ⟨_, H', J2.turned (t' := s2.toks) (fun b o hb e => (sb3.2 b hb).trans e) f0 f1 f3 f4 f5, q⟩⟩
theorem sw_trueD {kx vx : Expr} {gs : List Comprehension} {scope : Scope} {pos py : Pos} {y : Str} {l : Nat} {env : Env} (hk : env.scope.kind = .function) (hy : env.scope.names.lookup y = some .local) (hl : (py.line == pos.line) = true)
    (ha : (scope.names.any fun (n, k) => n == y && (k == .local || k == .cell)) = false) : swapsWith (.DictComp kx vx gs scope pos) (some (.Name y py)) l env = pure true := by
  have k1 : env.kindOf y = some .local := hy
  have k2 : env.blockKind = .function := by
    unfold Env.blockKind
    rw [hk] <;> rfl
  unfold swapsWith
  simp only [k2, k1, ha, Expr.pos, hl] <;> rfl
end OwnR

set_option Elab.async false
set_option linter.all false
set_option maxRecDepth 100000
set_option maxHeartbeats 2000000
namespace OwnR
open PySem PySem.Spec PyProof.Rows L2
/-! ### a field as a target among others -/
def gFld (K : PySem.W.Frag) (ta : TE) (f : Str) : TG := fun v σ H Q => ta σ H fun x H1 => ∃ a C dx fs, x = .ref a ∧ H1 a = some (.ins C dx fs) ∧ Cls K C ∧ NoAttr K C f ∧ fs.length < 1000 ∧ Q σ (upd H1 a (.ins C dx (putF f v fs)))
theorem pg_fld {X : Cx} {o : Expr} {f : Str} {pos : Pos} {ta : TE} (ha : PE X o ta) : PG X (.Attribute o f pos) (gFld X.K ta f) := by
  refine ⟨fun pins s σ H v u Q I r h => ?_⟩
  rw [assign_Attribute]
  refine wpAny_bind (wpAny_holding (thn (ha.run pins s σ H _ I h) fun ov s1 ⟨x, H1, I1, rx, a, C, dx, fs, ex, ea, c, n, l, q⟩ => ?_))
  subst ex
  obtain rfl : ov = Value.ref a := rx
  refine wpAny_bind (wpAny_standAt (wpAny_bind (wpAny_holding (setattr_ok I1 ea c n l r fun s3 I3 => ?_))))
  exact wpAny_release ⟨σ, _, I3, q⟩
end OwnR

set_option Elab.async false
set_option linter.all false
set_option maxRecDepth 100000
set_option maxHeartbeats 1000000
namespace Sl
open PySem PySem.Spec L2 OwnR LamX
/-- three lists of a Drive, each one longer -/
def upd3 (H : Hp) (W : DW) (td od ld : Addr) : Hp := upd (upd (upd H W.lt (.lst (W.tds.map V.ref ++ [.ref td]))) W.lo (.lst (W.ods.map V.ref ++ [.ref od]))) W.ll (.lst (W.lds.map V.ref ++ [.ref ld]))
def DW.more (W : DW) (td od ld : Addr) : DW := { W with tds := W.tds ++ [td], ods := W.ods ++ [od], lds := W.lds ++ [ld] }
theorem snoc_get {α : Type} {l : List α} {x y : α} {k : Nat} (h : (l ++ [x])[k]? = some y) : l[k]? = some y ∨ (k = l.length ∧ x = y) := by
  rcases Nat.lt_or_ge k l.length with lt | ge
  · rw [List.getElem?_append_left lt] at h
    exact .inl h
  · rw [List.getElem?_append_right ge] at h
    have e0 : k - l.length = 0 := by
      have := (List.getElem?_eq_some_iff.mp h).1
      simp at this
      omega
    rw [e0] at h
    exact .inr ⟨by omega, by simpa using h⟩
theorem DL.push {H0 H : Hp} {secs : List Sec} {cars : List Car} {m : Nat} {W : DW} (D : DL H0 H secs cars m W) {td od ld : Addr} {kt kl : List (Key × V)}
    (h1 : H td = some (.dK kt)) (t1 : ∀ n ∈ names cars, valV kt (Sum.inr n : Key) = some (.int ((plcC secs cars (m + 1)).tk n)))
    (h2 : H od = some (.lst ((plcC secs cars (m + 1)).ord.map V.str))) (o2 : od ≠ W.lt ∧ od ≠ W.lo ∧ od ≠ W.ll)
    (h3 : H ld = some (.dK kl)) (l3 : ∀ n, valV kl (Sum.inr n : Key) = (ldrC secs cars m n).map V.str) (g3 : New H0 ld) : DL H0 (upd3 H W td od ld) secs cars (m + 1) (W.more td od ld) := by
  have old : ∀ b o, H b = some o → b ≠ W.lt → b ≠ W.lo → b ≠ W.ll → upd3 H W td od ld b = some o := fun b o e n1 n2 n3 => by
    unfold upd3
    rw [upd_ne n3, upd_ne n2, upd_ne n1]
    exact e
  have nl : ∀ b o, H b = some o → (∀ xs, o ≠ .lst xs) → upd3 H W td od ld b = some o := fun b o e n =>
    old b o e (ne_of e D.lt (n _)) (ne_of e D.lo (n _)) (ne_of e D.ll (n _))
  refine { D with ext := ?_, lt := ?_, ltl := ?_, lo := ?_, lol := ?_, ll := ?_, lll := ?_, tk := ?_, od := ?_, ld := ?_, odn := ?_, newg := fun d hd => (List.mem_append.mp (show d ∈ W.lds ++ [ld] from hd)).elim (D.newg d) fun h => by (rw [List.mem_singleton.mp h]; exact g3) }
  · exact fun b o e n => old b o (D.ext b o e n) (D.newt b o e n) (D.newo b o e n) (D.newl b o e n)
  · show upd3 H W td od ld W.lt = some (.lst ((W.tds ++ [td]).map V.ref))
    unfold upd3
    rw [upd_ne D.ntl, upd_ne D.nto, upd_same, List.map_append]
    rfl
  · show (W.tds ++ [td]).length = _
    rw [List.length_append, D.ltl]
    rfl
  · show upd3 H W td od ld W.lo = some (.lst ((W.ods ++ [od]).map V.ref))
    unfold upd3
    rw [upd_ne D.nol, upd_same, List.map_append]
    rfl
  · show (W.ods ++ [od]).length = _
    rw [List.length_append, D.lol]
    rfl
  · show upd3 H W td od ld W.ll = some (.lst ((W.lds ++ [ld]).map V.ref))
    unfold upd3
    rw [upd_same, List.map_append]
    rfl
  · show (W.lds ++ [ld]).length = _
    rw [List.length_append, D.lll]
    rfl
  · intro k d h
    rcases snoc_get (show (W.tds ++ [td])[k]? = some d from h) with h | ⟨hk, rfl⟩
    · obtain ⟨kv, a, b⟩ := D.tk k d h
      exact ⟨kv, nl _ _ a fun xs z => (nomatch z), b⟩
    · rw [D.ltl] at hk
      subst hk
      exact ⟨kt, nl _ _ h1 fun xs z => (nomatch z), t1⟩
  · intro k d h
    rcases snoc_get (show (W.ods ++ [od])[k]? = some d from h) with h | ⟨hk, rfl⟩
    · have q := D.odn d (List.mem_of_getElem? h)
      exact old _ _ (D.od k d h) q.1 q.2.1 q.2.2
    · rw [D.lol] at hk
      subst hk
      exact old _ _ h2 o2.1 o2.2.1 o2.2.2
  · intro k d h
    rcases snoc_get (show (W.lds ++ [ld])[k]? = some d from h) with h | ⟨hk, rfl⟩
    · obtain ⟨kv, a, b⟩ := D.ld k d h
      exact ⟨kv, nl _ _ a fun xs z => (nomatch z), b⟩
    · rw [D.lll] at hk
      subst hk
      exact ⟨kl, nl _ _ h3 fun xs z => (nomatch z), l3⟩
  · intro d hd
    rcases List.mem_append.mp (show d ∈ W.ods ++ [od] from hd) with hd | hd
    · exact D.odn d hd
    · rw [List.mem_singleton.mp hd]
      exact o2
theorem Tabs.keepL {T : List (Addr × Str)} {H H' : Hp} (t : Tabs T H) (e : ∀ b o, H b = some o → (∀ xs, o ≠ .lst xs) → H' b = some o) : Tabs T H' := fun p hp => by
  obtain ⟨ps, h1, h2, h3⟩ := t p hp
  refine ⟨ps, e _ _ h1 fun xs z => (nomatch z), h2, fun pos cv hc => ?_⟩
  obtain ⟨c, e1, e2⟩ := h3 pos cv hc
  exact ⟨c, e1, e _ _ e2 fun xs z => by unfold CodeO at z; cases z⟩
theorem upd3_keep {H : Hp} {W : DW} {td od ld : Addr} {a b c : List V} (h1 : H W.lt = some (.lst a)) (h2 : H W.lo = some (.lst b)) (h3 : H W.ll = some (.lst c)) : ∀ x o, H x = some o → (∀ xs, o ≠ .lst xs) → upd3 H W td od ld x = some o := fun x o e n => by
  unfold upd3
  rw [upd_ne (ne_of e h3 (n _)), upd_ne (ne_of e h2 (n _)), upd_ne (ne_of e h1 (n _))]
  exact e
theorem lead_map (acc : List (RowT Str)) (n : Str) : ((look acc n).bind fun x => x.2.map V.str) = (leadOf acc n).map V.str := by
  unfold leadOf
  cases look acc n with
  | none => rfl
  | some x => rfl
/-- what the program asks of the class Drive -/
structure DriveT (K : PySem.W.Frag) (mg : Str → Option Value) (C : Addr) : Prop where
  cl : Cls K C
  nS : NoAttr K C "_sections"
  nP : NoAttr K C "_paces"
  nT : NoAttr K C "_ticks"
  nO : NoAttr K C "_orders"
  nL : NoAttr K C "_leaders"
  mgC : mg "Drive" = some (.ref C)
/-- a method of a class, as callers want it -/
structure Fm (K : PySem.W.Frag) (C : Addr) (x qual : Str) (st : Stmt) (ps : List Str) (f : Addr) (fd : FuncData) : Prop where
  fn : Fun K x qual st f fd
  at_ : Meth K C x f
  bd : Binds K fd ps []
section
variable {P : Program} {w : World} {K : PySem.W.Frag} {mg : Str → Option Value} {base : Heap}
def spDriveAll (K : PySem.W.Frag) (T : List (Addr × Str)) : Sp := fun vs H Q _ => ∃ (sc sd pd : Addr) (secs : List Sec) (cars : List Car), vs = [.ref sc, .ref sd, .ref pd] ∧ SecsAt H sc secs ∧ H sd = some (.dK (startK cars)) ∧ H pd = some (.dK (paceK cars)) ∧ SecsOk secs ∧ CarsOk cars ∧ Tabs T H ∧
  ∀ H' t W, DL H H' secs cars secs.length W → H' t = some (.tup [.ref W.lt, .ref W.lo, .ref W.ll]) → New H t → Tabs T H' → Q (.ref t) H'
def nDriveAll : List Str := ["sections", "starts", "paces", "ticks", "orders", "leaders", "kind", "length", "order", "left", "led", "car"]
theorem scDriveAll : FnScope nDriveAll ["sections", "starts", "paces"] (defScope sDriveAll) := ⟨rfl, rfl, rfl, by decide +kernel, rfl, by decide +kernel, by decide +kernel⟩
theorem atI_lst {α : Type} {xs : List α} {m : Nat} {v : α} (hl : xs.length = m + 1) (h : xs[m]? = some v) : atI xs (-1) = some v := by
  obtain ⟨r, x, e, hr⟩ := snoc_of hl
  subst e
  rw [List.getElem?_append_right (by omega), hr] at h
  simp at h
  subst h
  exact atI_last _ _
theorem ok_driveAll {f fO fF c Pt : Addr} {fd dO dF : FuncData} {T : List (Addr × Str)} (F : Fun K "drive_all" "drive_all" sDriveAll f fd) (M : Mg mg)
    (BO : FbC K mg "_in_order" sInOrder ["names", "ticks"] fO dO c) (BF : Fb K mg "_follow" sFollow ["order", "free"] fF dF)
    (GO : FnOk P w K mg base CX0 3 fO dO ["names", "ticks"] (spInOrder K T)) (GF : FnOk P w K mg base CX0 1 fF dF ["order", "free"] (spFollow K)) :
    FnOk P w K mg base CX0 4 f fd ["sections", "starts", "paces"] (spDriveAll K T) := by
  refine F.ok scDriveAll (fun vs H Q E h => ?_) (fun cdv A outer s H vs Q E hr h => ?_)
  · obtain ⟨sc, sd, pd, secs, cars, rfl, _⟩ := h
    rfl
  · obtain ⟨sc, sd, pd, secs, cars, rfl, hS, hsd, hpd, SO, CO, hT, k⟩ := h
    have nd := scDriveAll.nd
    have hu := hu_of hr
    refine ⟨_, pss_cons (ps_set (i := 3) nd rfl (.inr rfl) (pe_lst (pa_cons (pv 1) pa_nil)))
      (pss_cons (ps_set (i := 4) nd rfl (.inl rfl) (pe_lst (pa_cons (pe_call GO hr (by rfl) BO.at_ BO.fn.kp BO.bd .nil pass0 (pa_cons (pe_callTy (call_list_dK rfl) (by rfl) M.list (by decide +kernel) (pa_cons (pv 1) pa_nil)) (pa_cons (pv 1) pa_nil))) pa_nil)))
      (pss_cons (ps_set (i := 5) nd rfl (.inl rfl) (pe_lst pa_nil))
      (pss_cons (ps_for PassesOwn.never rfl (pi_tup (pv 0)) (pg_tup rfl (pgs_cons (pg_name (i := 6) nd rfl (.inl rfl)) (pgs_cons (pg_name (i := 7) nd rfl (.inr rfl)) pgs_nil)))
        (pss_cons (ps_set (i := 8) nd rfl (.inl rfl) (pe_ix ix_list (pv 4) (pe_un un_neg pe_int) (fun _ _ => rfl)))
        (pss_cons (ps_setDc (i := 9) (own := [("car", 11)]) (g := gName 11) (tt := tYes) (tk := tVar 11) (tv := tOp (rI0 fun i j => .int (i + j)) (tDGet (tOp (rIxL K) (tVar 3) (tUn (rU fun i => .int (-i)) (tC (.int 1)))) (tVar 11)) (tOp (rI CMul fun i j => .int (i * j)) (tDGet (tVar 2) (tVar 11)) (tVar 7))) (by rfl) nd rfl rfl (sw_trueD rfl rfl rfl (by decide +kernel)) (pi_list (pv 8)) (blkOk_by (N := nDriveAll) (sc := defScope sDriveAll) (by decide +kernel))
            (fun _ _ _ _ _ => pg_name (i := 11) nd rfl (Or.inl rfl)) (fun _ _ _ _ _ => pts_nil) (fun _ _ _ _ _ => pv 11)
            (fun _ _ _ _ _ => pe_op op_add (pe_dget hu (pe_ix (r := rIxL K) ix_list (pv 3) (pe_un un_neg pe_int) (fun _ _ => rfl)) (pv 11) (fun _ _ => rfl)) (pe_op op_mul (pe_dget hu (pv 2) (pv 11) (fun _ _ => rfl)) (pv 7))))
        (pss_cons (ps_set (i := 10) nd rfl (.inl rfl) pe_dnewK)
        (pss_cons (ps_if (pt_cmpR op_eq (pv 6) pe_str (nomark _))
            (pss_one (ps_set (i := 8) nd rfl (.inl rfl) (pe_call GO hr (by rfl) BO.at_ BO.fn.kp BO.bd .nil pass0 (pa_cons (pv 8) (pa_cons (pv 9) pa_nil)))))
            (pss_one (ps_asg (pe_call GF (hr.mono (by decide)) (by rfl) BF.at_ BF.fn.kp BF.bd .nil pass0 (pa_cons (pv 8) (pa_cons (pv 9) pa_nil))) (pg_tup rfl (pgs_cons (pg_name (i := 9) nd rfl (.inl rfl)) (pgs_cons (pg_name (i := 10) nd rfl (.inl rfl)) pgs_nil))))))
        (pss_cons (ps_expr (pe_bm PySem.F.plainAttrs_list PySem.F.slot_list_append PySem.F.type_list_append mt_append (pv 3) (pa_cons (pv 9) pa_nil)))
        (pss_cons (ps_expr (pe_bm PySem.F.plainAttrs_list PySem.F.slot_list_append PySem.F.type_list_append mt_append (pv 4) (pa_cons (pv 8) pa_nil)))
        (pss_one (ps_expr (pe_bm PySem.F.plainAttrs_list PySem.F.slot_list_append PySem.F.type_list_append mt_append (pv 5) (pa_cons (pv 10) pa_nil)))))))))))
      (pss_one (ps_ret (pe_tup (pa_cons (pv 3) (pa_cons (pv 4) (pa_cons (pv 5) pa_nil))))))))), ?_⟩
    have ndn : (names cars).Nodup := CO.nd
    refine ⟨_, rfl, by show 1 ≤ sizeLine; decide, fun lt hlt => ?_⟩
    have s1 : Same H (upd H lt (.lst [.ref sd])) := fun b o e => by rw [upd_ne (ne_of_none e hlt)]; exact e
    have hlt1 : (upd H lt (.lst [.ref sd])) lt = some (.lst [.ref sd]) := upd_same
    show tSeq _ _ _ _ (upd H lt (.lst [.ref sd]))
    generalize upd H lt (.lst [.ref sd]) = H1 at s1 hlt1 ⊢
    refine ⟨_, rfl, sd, _, rfl, s1 _ _ hsd, fun l hl => ?_⟩
    rw [startK_keys]
    have s2 : Same H1 (upd H1 l (.lst ((names cars).map V.str))) := fun b o e => by rw [upd_ne (ne_of_none e hl)]; exact e
    have hl2 : (upd H1 l (.lst ((names cars).map V.str))) l = some (.lst ((names cars).map V.str)) := upd_same
    have T2 : Tabs T (upd H1 l (.lst ((names cars).map V.str))) := hT.ext (s1.trans s2)
    refine ⟨_, rfl, l, sd, names cars, _, startOf cars, rfl, SqL.of hl2, s2 _ _ (s1 _ _ hsd), fun n hn => startK_get ndn hn, T2, fun H3 Do e3 T3 n3 hDo => ?_⟩
    have hlt3 := ExtN.lst e3 (s2 _ _ hlt1)
    have x3 : ExtN H H3 := (ExtN.same (s1.trans s2)).trans e3
    have nDot : Do ≠ lt := fun z => n3 lt _ (s2 _ _ hlt1) (fun _ y => nomatch y) z.symm
    refine ⟨by show 1 ≤ sizeLine; decide, fun lo hlo => ?_⟩
    have nto : lt ≠ lo := ne_of_none hlt3 hlo
    have nDo : Do ≠ lo := ne_of_none hDo hlo
    have s4 : Same H3 (upd H3 lo (.lst [.ref Do])) := fun b o e => by rw [upd_ne (ne_of_none e hlo)]; exact e
    have hlo4 : (upd H3 lo (.lst [.ref Do])) lo = some (.lst [.ref Do]) := upd_same
    show tSeq _ _ _ _ (upd H3 lo (.lst [.ref Do]))
    generalize upd H3 lo (.lst [.ref Do]) = H4 at s4 hlo4 ⊢
    have x4 : ExtN H H4 := x3.trans (ExtN.same s4)
    refine ⟨Nat.zero_le _, fun ll hll => ?_⟩
    have s5 : Same H4 (upd H4 ll (.lst [])) := fun b o e => by rw [upd_ne (ne_of_none e hll)]; exact e
    have hll5 : (upd H4 ll (.lst [])) ll = some (.lst []) := upd_same
    have hlt4 := s4 _ _ hlt3
    have ntl : lt ≠ ll := ne_of_none hlt4 hll
    have nol : lo ≠ ll := ne_of_none hlo4 hll
    have nDol : Do ≠ ll := ne_of_none (s4 _ _ hDo) hll
    show tSeq _ _ _ _ (upd H4 ll (.lst []))
    generalize upd H4 ll (.lst []) = H5 at s5 hll5 ⊢
    have x5 : ExtN H H5 := x4.trans (ExtN.same s5)
    have D0 : DL H H5 secs cars 0 ⟨sc, sc, pd, lt, lo, ll, [sd], [Do], []⟩ := by
      refine { ext := x5, lt := s5 _ _ hlt4, ltl := rfl, lo := s5 _ _ hlo4, lol := rfl, ll := hll5, lll := rfl, tk := ?_, od := ?_, ld := ?_, newt := New.of hlt, newo := New.ext x3 (New.of hlo), newl := New.ext x4 (New.of hll), newg := fun d hd => (nomatch hd), nto := nto, ntl := ntl, nol := nol, odn := ?_ }
      · intro k d h
        have : k = 0 ∧ sd = d := by
          cases k with
          | zero => exact ⟨rfl, by simpa using h⟩
          | succ k => simp at h
        obtain ⟨rfl, rfl⟩ := this
        exact ⟨_, ExtN.dK x5 hsd, fun n hn => startK_get ndn hn⟩
      · intro k d h
        have : k = 0 ∧ Do = d := by
          cases k with
          | zero => exact ⟨rfl, by simpa using h⟩
          | succ k => simp at h
        obtain ⟨rfl, rfl⟩ := this
        exact s5 _ _ (s4 _ _ hDo)
      · intro k d h
        simp at h
      · intro d hd
        rw [List.mem_singleton.mp hd]
        exact ⟨nDot, nDo, nDol⟩
    have T5 : Tabs T H5 := T3.ext (s4.trans s5)
    obtain ⟨us, u1, u2, u3⟩ := hS
    have hus : (us.map V.ref).length = secs.length := by rw [List.length_map, u2]
    refine ⟨_, rfl, sc, rfl, ⟨_, SqT.of (ExtN.tup x5 u1)⟩, for_it walk_tup
      (fun i σ H6 => ∃ v6 v7 v8 v9 v10 W, σ = [some (.ref sc), some (.ref sd), some (.ref pd), some (.ref W.lt), some (.ref W.lo), some (.ref W.ll), v6, v7, v8, v9, v10, none] ∧ DL H H6 secs cars i W ∧ Tabs T H6)
      ⟨none, none, none, none, none, _, rfl, D0, T5⟩ (fun i σ H6 _ ⟨_, _, _, _, _, _, _, D6, _⟩ => SqT.of (ExtN.tup D6.ext u1)) ?_ ?_⟩
    · clear D0 T5 x5 x4 x3 s5 s4 hll5 hlo4 hlt4 hlt3 s1 s2 hlt1 hl2 T2 T3 n3 hDo e3
      rintro i y σ H6z H6 hi ⟨v6, v7, v8, v9, v10, W, rfl, D, hT6⟩ ⟨e, hy⟩
      subst e
      obtain ⟨t, ht, rfl⟩ : ∃ t, us[i]? = some t ∧ y = V.ref t := by
        rw [List.getElem?_map] at hy
        obtain ⟨t, z1, z2⟩ := Option.map_eq_some_iff.mp hy
        exact ⟨t, z1, z2.symm⟩
      have hml : i < secs.length := by rw [hus] at hi; exact hi
      have hs : secs[i]? = some secs[i] := List.getElem?_eq_getElem hml
      have hct := ExtN.tup D.ext (u3 i t _ ht hs)
      have c0 := SO.len _ (List.getElem_mem hml)
      have hfew := SO.few
      refine ⟨t, _, rfl, SqT.of hct, rfl, _, _, rfl, _, _, rfl, rfl, ?_⟩
      generalize secs[i] = sn at hs hct c0 ⊢
      have h99 := c0.2
      have hpd6 := ExtN.dK D.ext hpd
      obtain ⟨td, htd⟩ : ∃ td, W.tds[i]? = some td := ⟨_, List.getElem?_eq_getElem (by rw [D.ltl]; omega)⟩
      obtain ⟨od, hod⟩ : ∃ od, W.ods[i]? = some od := ⟨_, List.getElem?_eq_getElem (by rw [D.lol]; omega)⟩
      obtain ⟨kt, ht1, ht2⟩ := D.tk i td htd
      have ho1 := D.od i od hod
      have hperm := plcC_perm secs cars i
      have eN : plcC secs cars (i + 1) = stepP (paceOf cars) (plcC secs cars i) sn := plc_succ (paceOf cars) (pl0 cars) secs hs
      have eL : ∀ n, ldrC secs cars i n = leadP (paceOf cars) (plcC secs cars i) sn n := fun n => by
        show ldr (paceOf cars) (pl0 cars) secs i n = _
        unfold ldr
        rw [hs]
      generalize hpl : plcC secs cars i = pl at *
      have hmem : ∀ n ∈ pl.ord, n ∈ names cars := fun n h => hperm.mem_iff.mp h
      have hlen10 : pl.ord.length ≤ 10 := by
        rw [hperm.length_eq]
        unfold names
        rw [List.length_map]
        exact CO.few
      have hndo : pl.ord.Nodup := hperm.nodup_iff.mpr ndn
      have pcb : ∀ n ∈ names cars, 1 ≤ paceOf cars n ∧ paceOf cars n ≤ 60 := fun n h => by
        obtain ⟨c, hc, rfl⟩ := List.mem_map.mp h
        rw [paceOf_car ndn hc]
        exact ⟨(CO.all c hc).p0, (CO.all c hc).p1⟩
      refine ⟨_, rfl, _, rfl, W.lo, _, _, .ref od, rfl, rfl, SqL.of D.lo, atI_lst (by rw [List.length_map, D.lol]) (by rw [List.getElem?_map, hod]; rfl), ?_⟩
      refine ⟨_, rfl, od, rfl, ⟨_, SqL.of ho1⟩, fun Dd hDd => ?_⟩
      refine dc_it walk_list (fun i H1 => Same H6 H1 ∧ ∃ kvs : List (Key × V), H1 Dd = some (.dK kvs) ∧ kvs.length ≤ i ∧ ∀ n ∈ pl.ord.take i, valV kvs (Sum.inr n : Key) = some (.int (freeP (paceOf cars) pl sn.2 n)))
        ⟨fun b o e => by rw [upd_ne (ne_of_none e hDd)]; exact e, [], upd_same, Nat.le_refl _, fun n hn => by simp at hn⟩ (fun i H1 _ ⟨k1, _⟩ => SqL.of (k1 _ _ ho1)) ?_ ?_
      · rintro j y H1 H2 hj ⟨k1, kvs, hD1, lk, hk⟩ ⟨e, hy⟩
        subst e
        obtain ⟨n, hn, rfl⟩ : ∃ n, pl.ord[j]? = some n ∧ y = V.str n := by
          rw [List.getElem?_map] at hy
          obtain ⟨t, z1, z2⟩ := Option.map_eq_some_iff.mp hy
          exact ⟨t, z1, z2.symm⟩
        have hnm := hmem n (List.mem_of_getElem? hn)
        have pb := pcb n hnm
        have hio : j < pl.ord.length := (List.getElem?_eq_some_iff.mp hn).1
        refine ⟨rfl, yes_of ?_⟩
        refine ⟨_, rfl, _, rfl, _, rfl, W.lt, _, _, .ref td, rfl, rfl, SqL.of (k1 _ _ D.lt), atI_lst (by rw [List.length_map, D.ltl]) (by rw [List.getElem?_map, htd]; rfl), _, rfl, td, _, rfl, gk (k1 _ _ ht1) (ht2 n hnm), _, rfl, _, rfl, pd, _, rfl, gk (k1 _ _ hpd6) (paceK_get ndn hnm), _, rfl, _, _, rfl, rfl, .inl ⟨by omega, by omega⟩, _, _, rfl, rfl, ?_⟩
        refine ⟨kvs, Sum.inr n, rfl, hD1, small1000 (by omega), fun b o e => by rw [upd_ne (ne_of_none e hDd)]; exact k1 _ _ e, _, upd_same, Nat.le_trans (length_putK _ _ _) (by omega), fun a ha => ?_⟩
        rw [tk1 hn] at ha
        rw [valV_putS]
        by_cases ean : a = n
        · rw [if_pos ean, ean]
          rfl
        · rw [if_neg ean]
          rcases List.mem_append.mp ha with ha | ha
          · exact hk a ha
          · exact absurd (List.mem_singleton.mp ha) ean
      · rintro H1 ⟨k1, kvs, hD1, lk, hk⟩
        have e9 : pl.ord.take (pl.ord.map V.str).length = pl.ord := by rw [List.length_map, List.take_length]
        rw [e9] at hk
        intro G hG
        have sG : Same H6 (upd H1 G (.dK [])) := fun b o e => by rw [upd_ne (ne_of_none (k1 _ _ e) hG)]; exact k1 _ _ e
        have nDG : Dd ≠ G := ne_of_none hD1 hG
        have hD2 : (upd H1 G (.dK [])) Dd = some (.dK kvs) := by rw [upd_ne nDG]; exact hD1
        have TG : Tabs T (upd H1 G (.dK [])) := hT6.ext sG
        refine ⟨_, rfl, rfl, _, rfl, ?_⟩
        have ek : decide (V.str (kindS sn.1) = V.str "wide") = sn.1 := by cases sn.1 <;> decide +kernel
        rw [ek]
        cases hw : sn.1 with
        | true =>
          refine iteT ?_
          refine ⟨_, rfl, _, rfl, od, Dd, pl.ord, kvs, freeP (paceOf cars) pl sn.2, rfl, SqL.of (sG _ _ ho1), hD2, hk, TG, fun H5 Dn e5 T5 n5 hDn => ?_⟩
          have D5 := (D.step (ExtN.same sG)).step e5
          have estep : plcC secs cars (i + 1) = ⟨sortBy (freeP (paceOf cars) pl sn.2) pl.ord, freeP (paceOf cars) pl sn.2⟩ := by
            rw [eN]
            unfold stepP
            rw [hw]
            rfl
          have hD5 := ExtN.dK e5 hD2
          have hG5 : H5 G = some (.dK []) := ExtN.dK e5 upd_same
          have onL : ∀ b xs, H6 b = some (.lst xs) → b ≠ Dn := fun b xs e => n5 b _ (sG _ _ e) (fun _ z => nomatch z)
          have z1 : (W.tds.map V.ref).length < sizeLine := by rw [List.length_map, D.ltl]; exact small1000 (by omega)
          have z2 : (W.ods.map V.ref).length < sizeLine := by rw [List.length_map, D.lol]; exact small1000 (by omega)
          have z3 : (W.lds.map V.ref).length < sizeLine := by rw [List.length_map, D.lll]; exact small1000 (by omega)
          have l2 : ∀ o, (upd H5 W.lt (.lst o)) W.lo = some (.lst (W.ods.map V.ref)) := fun o => by rw [upd_ne D5.nto.symm]; exact D5.lo
          have l3 : ∀ o o2, (upd (upd H5 W.lt (.lst o)) W.lo (.lst o2)) W.ll = some (.lst (W.lds.map V.ref)) := fun o o2 => by rw [upd_ne D5.nol.symm, upd_ne D5.ntl.symm]; exact D5.ll
          refine ⟨_, rfl, .inl ⟨rfl, _, SqL.of D5.lt⟩, _, rfl, W.lt, _, _, rfl, rfl, D5.lt, z1, ?_⟩
          refine ⟨_, rfl, .inl ⟨rfl, _, SqL.of (l2 _)⟩, _, rfl, W.lo, _, _, rfl, rfl, l2 _, z2, ?_⟩
          refine ⟨_, rfl, .inl ⟨rfl, _, SqL.of (l3 _ _)⟩, _, rfl, W.ll, _, _, rfl, rfl, l3 _ _, z3, ?_⟩
          refine ⟨_, _, _, _, _, W.more Dd Dn G, rfl, D5.push (td := Dd) (od := Dn) (ld := G) hD5 (fun n hn => ?_) (by rw [estep]; exact hDn) ⟨(onL _ _ D.lt).symm, (onL _ _ D.lo).symm, (onL _ _ D.ll).symm⟩ hG5 (fun n => ?_) (New.ext (D.ext.trans (ExtN.same k1)) (New.of hG)), Tabs.keepL T5 (upd3_keep D5.lt D5.lo D5.ll)⟩
          · rw [estep]
            exact hk n (hperm.mem_iff.mpr hn)
          · rw [eL n]
            unfold leadP
            rw [hw]
            rfl
        | false =>
          refine iteF ?_
          refine ⟨_, rfl, _, rfl, od, Dd, pl.ord, kvs, freeP (paceOf cars) pl sn.2, rfl, SqL.of (sG _ _ ho1), hD2, hk, hndo, by omega, fun H5 t L G2 kL kG s5 nL nG nLG ht hL hG2 tL tG => ?_⟩
          have D5 := D.step (ExtN.same (sG.trans s5))
          have estep : plcC secs cars (i + 1) = ⟨pl.ord, tickOf (foll (freeP (paceOf cars) pl sn.2) pl.ord)⟩ := by
            rw [eN]
            unfold stepP
            rw [hw]
            rfl
          have ho5 := s5 _ _ (sG _ _ ho1)
          have q := D.odn od (List.mem_of_getElem? hod)
          refine ⟨t, _, rfl, SqT.of ht, rfl, _, _, rfl, _, _, rfl, rfl, ?_⟩
          have z1 : (W.tds.map V.ref).length < sizeLine := by rw [List.length_map, D.ltl]; exact small1000 (by omega)
          have z2 : (W.ods.map V.ref).length < sizeLine := by rw [List.length_map, D.lol]; exact small1000 (by omega)
          have z3 : (W.lds.map V.ref).length < sizeLine := by rw [List.length_map, D.lll]; exact small1000 (by omega)
          have l2 : ∀ o, (upd H5 W.lt (.lst o)) W.lo = some (.lst (W.ods.map V.ref)) := fun o => by rw [upd_ne D5.nto.symm]; exact D5.lo
          have l3 : ∀ o o2, (upd (upd H5 W.lt (.lst o)) W.lo (.lst o2)) W.ll = some (.lst (W.lds.map V.ref)) := fun o o2 => by rw [upd_ne D5.nol.symm, upd_ne D5.ntl.symm]; exact D5.ll
          refine ⟨_, rfl, .inl ⟨rfl, _, SqL.of D5.lt⟩, _, rfl, W.lt, _, _, rfl, rfl, D5.lt, z1, ?_⟩
          refine ⟨_, rfl, .inl ⟨rfl, _, SqL.of (l2 _)⟩, _, rfl, W.lo, _, _, rfl, rfl, l2 _, z2, ?_⟩
          refine ⟨_, rfl, .inl ⟨rfl, _, SqL.of (l3 _ _)⟩, _, rfl, W.ll, _, _, rfl, rfl, l3 _ _, z3, ?_⟩
          have T5 : Tabs T H5 := TG.ext s5
          refine ⟨_, _, _, _, _, W.more L od G2, rfl, D5.push (td := L) (od := od) (ld := G2) hL (fun n hn => ?_) (by rw [estep]; exact ho5) q hG2 (fun n => ?_) (New.ext (D.step (ExtN.same sG)).ext (New.of nG)), Tabs.keepL T5 (upd3_keep D5.lt D5.lo D5.ll)⟩
          · rw [estep, tL n]
            obtain ⟨x, hx⟩ := look_some (acc := foll (freeP (paceOf cars) pl sn.2) pl.ord) (n := n) (by rw [foll_names]; exact hperm.mem_iff.mpr hn)
            show _ = some (V.int (tickOf (foll (freeP (paceOf cars) pl sn.2) pl.ord) n))
            unfold tickOf
            rw [hx]
            rfl
          · rw [tG n, lead_map, eL n]
            unfold leadP
            rw [hw]
            rfl
    · rintro σ H6 ⟨v6, v7, v8, v9, v10, W, rfl, D, hT6⟩
      rw [hus] at D
      refine ⟨_, rfl, _, rfl, _, rfl, by show 3 ≤ sizeLine; decide, fun t ht => ?_⟩
      have s7 : Same H6 (upd H6 t (.tup [.ref W.lt, .ref W.lo, .ref W.ll])) := fun b o e => by rw [upd_ne (ne_of_none e ht)]; exact e
      exact k _ t W (D.step (ExtN.same s7)) upd_same (New.ext D.ext (New.of ht)) (hT6.ext s7)
end
end Sl

set_option Elab.async false
set_option linter.all false
set_option maxRecDepth 100000
set_option maxHeartbeats 1000000
namespace Sl
open PySem PySem.Spec L2 OwnR LamX
theorem Tabs.keepP {T : List (Addr × Str)} {H H' : Hp} {p C d : Addr} {fs : List (Str × V)} (t : Tabs T H) (hp : H p = some (.ins C d fs)) (e : ∀ b o, H b = some o → b ≠ p → H' b = some o) : Tabs T H' := fun q hq => by
  obtain ⟨ps, h1, h2, h3⟩ := t q hq
  refine ⟨ps, e _ _ h1 (ne_of h1 hp (by intro z; cases z)), h2, fun pos cv hc => ?_⟩
  obtain ⟨c, e1, e2⟩ := h3 pos cv hc
  exact ⟨c, e1, e _ _ e2 (ne_of e2 hp (by intro z; unfold CodeO at z; cases z))⟩
theorem valV_names_none {g : Car → V} {cars : List Car} {n : Str} (h : n ∉ names cars) : valV (cars.map fun c => ((Sum.inr c.name : Key), g c)) (Sum.inr n : Key) = none := by
  induction cars with
  | nil => rfl
  | cons a l ih =>
    unfold names at h
    rw [List.map_cons, List.mem_cons] at h
    have hne : ¬ (Sum.inr a.name : Key) = Sum.inr n := fun z => h (.inl (Sum.inr.inj z).symm)
    rw [List.map_cons, valV_neg hne]
    exact ih fun z => h (.inr z)
theorem take_new {cars : List Car} (nd : (names cars).Nodup) {i : Nat} {c : Car} (h : cars[i]? = some c) : c.name ∉ names (cars.take i) := by
  intro hm
  obtain ⟨j, hj⟩ := List.mem_iff_getElem?.mp hm
  unfold names at hj nd
  rw [List.getElem?_map] at hj
  obtain ⟨c', hc', en⟩ := Option.map_eq_some_iff.mp hj
  have hj2 : j < i := by
    have := (List.getElem?_eq_some_iff.mp hc').1
    rw [List.length_take] at this
    omega
  rw [List.getElem?_take_of_lt hj2] at hc'
  have a1 : (cars.map (·.name))[j]? = some c.name := by rw [List.getElem?_map, hc']; exact congrArg some en
  have a2 : (cars.map (·.name))[i]? = some c.name := by rw [List.getElem?_map, h]; rfl
  have := nd_ix nd a1 a2
  omega
theorem put_car {g : Car → V} {cars : List Car} (nd : (names cars).Nodup) {i : Nat} {c : Car} (h : cars[i]? = some c) :
    putK ((cars.take i).map fun c => ((Sum.inr c.name : Key), g c)) (Sum.inr c.name : Key) (g c) = (cars.take (i + 1)).map fun c => ((Sum.inr c.name : Key), g c) := by
  rw [putK_new _ (valV_names_none (take_new nd h)), tk1 h, List.map_append]
  rfl
section
variable {P : Program} {w : World} {K : PySem.W.Frag} {mg : Str → Option Value} {base : Heap}
def spDInit (CR C : Addr) (T : List (Addr × Str)) : Sp := fun vs H Q _ => ∃ (H0 : Hp) (p dx r a : Addr) (secs : List Sec) (cars : List Car), vs = [.ref p, .ref r, .ref a] ∧ H p = some (.ins C dx []) ∧ Same H0 H ∧ H0 p = none ∧ RoadAt CR H0 r secs ∧ CarsAt H0 a cars ∧ SecsOk secs ∧ CarsOk cars ∧ Tabs T H0 ∧
  ∀ H' W, DP C H0 H' p secs cars secs.length W → Tabs T H' → Q .non H'
def nDInit : List Str := ["self", "road", "cars", "starts", "name", "start", "pace"]
theorem scDInit : FnScope nDInit ["self", "road", "cars"] (defScope sDInit) := ⟨rfl, rfl, rfl, by decide +kernel, rfl, by decide +kernel, by decide +kernel⟩
theorem ok_dInit {f fK fA fP CR C lp kp pp : Addr} {fd dK dA dP : FuncData} {T : List (Addr × Str)} (F : Fm K C "__init__" "Drive.__init__" sDInit ["self", "road", "cars"] f fd) (M : Mg mg) (R : DriveT K mg C) (RR : RoadT K w mg CR lp kp)
    (BK : Fb K mg "check_cars" sCheckCars ["cars"] fK dK) (BA : Fb K mg "drive_all" sDriveAll ["sections", "starts", "paces"] fA dA)
    (PO : PropOf K CR "sections" pp fP) (bP : Binds K dP ["self"] [])
    (GK : FnOk P w K mg base CX0 3 fK dK ["cars"] spCheckCars) (GA : FnOk P w K mg base CX0 4 fA dA ["sections", "starts", "paces"] (spDriveAll K T))
    (GP : FnOk P w K mg base CX0 1 fP dP ["self"] (getSp CR "_sections")) :
    FnOk P w K mg base CX0 5 f fd ["self", "road", "cars"] (spDInit CR C T) := by
  refine F.fn.ok scDInit (fun vs H Q E h => ?_) (fun cdv A outer s H vs Q E hr h => ?_)
  · obtain ⟨H0, p, dx, r, a, secs, cars, rfl, _⟩ := h
    rfl
  · obtain ⟨H0, p, dx, r, a, secs, cars, rfl, hp, s0, p0, hR, hC, SO, CO, hT, k⟩ := h
    have nd := scDInit.nd
    have hu := hu_of hr
    have hr2 : Room 2 (A.deeper (PyProof.Rows.envOfC "Drive.__init__" (defScope sDInit) s.heap.objs.size f cdv)) := hr.mono (by decide)
    have hr3 : Room 3 (A.deeper (PyProof.Rows.envOfC "Drive.__init__" (defScope sDInit) s.heap.objs.size f cdv)) := hr.mono (by decide)
    refine ⟨_, pss_cons (ps_expr (pe_call GK hr3 (by rfl) BK.at_ BK.fn.kp BK.bd .nil pass0 (pa_cons (pv 2) pa_nil)))
      (pss_cons (ps_fld (pv 0) (pe_prop (pv 1) RR.cl PO GP hr2 bP .nil pass0 rfl) rfl)
      (pss_cons (ps_fld (pv 0) (pe_dc (own := [("name", 4), ("start", 5), ("pace", 6)]) (g := gTup K 3 (gCons (gName 4) (gCons (gName 5) (gCons (gName 6) gNil)))) (tt := tYes) (by rfl) nd (pi_tup (pv 2)) (blkOk_by (N := nDInit) (sc := defScope sDInit) (by decide +kernel))
          (fun _ _ _ _ _ => pg_tup rfl (pgs_cons (pg_name (i := 4) nd rfl (Or.inl rfl)) (pgs_cons (pg_name (i := 5) nd rfl (Or.inl rfl)) (pgs_cons (pg_name (i := 6) nd rfl (Or.inl rfl)) pgs_nil)))) (fun _ _ _ _ _ => pts_nil) (fun _ _ _ _ _ => pv 4) (fun _ _ _ _ _ => pv 6)) rfl)
      (pss_cons (ps_setDc (i := 3) (own := [("name", 4), ("start", 5), ("pace", 6)]) (g := gTup K 3 (gCons (gName 4) (gCons (gName 5) (gCons (gName 6) gNil)))) (tt := tYes) (tk := tVar 4) (tv := tVar 5) (by rfl) nd rfl rfl (sw_trueD rfl rfl rfl (by decide +kernel)) (pi_tup (pv 2)) (blkOk_by (N := nDInit) (sc := defScope sDInit) (by decide +kernel))
          (fun _ _ _ _ _ => pg_tup rfl (pgs_cons (pg_name (i := 4) nd rfl (Or.inl rfl)) (pgs_cons (pg_name (i := 5) nd rfl (Or.inl rfl)) (pgs_cons (pg_name (i := 6) nd rfl (Or.inl rfl)) pgs_nil)))) (fun _ _ _ _ _ => pts_nil) (fun _ _ _ _ _ => pv 4) (fun _ _ _ _ _ => pv 5))
      (pss_one (ps_asg (pe_call GA hr (by rfl) BA.at_ BA.fn.kp BA.bd .nil pass0 (pa_cons (pe_prop (pv 1) RR.cl PO GP hr2 bP .nil pass0 rfl) (pa_cons (pv 3) (pa_cons (pe_fld (pv 0) rfl) pa_nil)))) (pg_tup rfl (pgs_cons (pg_fld (pv 0)) (pgs_cons (pg_fld (pv 0)) (pgs_cons (pg_fld (pv 0)) pgs_nil))))))))), ?_⟩
    have ndn : (names cars).Nodup := CO.nd
    obtain ⟨ts, ha, hlen, hcar⟩ := hC
    obtain ⟨dr, tr, ur, hr1, hsc, _⟩ := hR
    refine ⟨_, rfl, a, cars, rfl, ⟨ts, s0 _ _ ha, hlen, fun i t c e1 e2 => s0 _ _ (hcar i t c e1 e2)⟩, CO, fun H1 s1 => ?_⟩
    have s01 : Same H0 H1 := s0.trans s1
    have hp1 := s1 _ _ hp
    refine ⟨_, rfl, r, dr, _, rfl, s01 _ _ hr1, r, dr, _, _, rfl, s01 _ _ hr1, rf_sections _ _, _, rfl, p, C, dx, _, rfl, hp1, R.cl, R.nS, (by show 0 < 1000; decide), ?_⟩
    have old2 : ∀ b o, H0 b = some o → upd H1 p (.ins C dx (df1 tr)) b = some o := fun b o e => by rw [upd_ne (ne_of_none e p0)]; exact s01 _ _ e
    have hp2 : upd H1 p (.ins C dx (df1 tr)) p = some (.ins C dx (df1 tr)) := upd_same
    show tSeq _ _ _ _ (upd H1 p (.ins C dx (df1 tr)))
    generalize upd H1 p (.ins C dx (df1 tr)) = H2 at old2 hp2 ⊢
    have htz : (ts.map V.ref).length = cars.length := by rw [List.length_map, hlen]
    have e9 : cars.take (ts.map V.ref).length = cars := by rw [htz, List.take_length]
    refine ⟨_, rfl, a, rfl, ⟨_, SqT.of (old2 _ _ ha)⟩, fun D hD => ?_⟩
    refine dc_it walk_tup (fun i H3 => Same H2 H3 ∧ H3 D = some (.dK ((cars.take i).map fun c => ((Sum.inr c.name : Key), V.int c.pace))))
      ⟨fun b o e => by rw [upd_ne (ne_of_none e hD)]; exact e, upd_same⟩ (fun i H3 _ ⟨k1, _⟩ => SqT.of (k1 _ _ (old2 _ _ ha))) ?_ ?_
    · rintro i y H3 H4 hi ⟨k1, hD1⟩ ⟨e, hy⟩
      subst e
      obtain ⟨t, ht, rfl⟩ : ∃ t, ts[i]? = some t ∧ y = V.ref t := by
        rw [List.getElem?_map] at hy
        obtain ⟨t, z1, z2⟩ := Option.map_eq_some_iff.mp hy
        exact ⟨t, z1, z2.symm⟩
      have hic : i < cars.length := by rw [htz] at hi; exact hi
      have hc : cars[i]? = some cars[i] := List.getElem?_eq_getElem hic
      have hct := k1 _ _ (old2 _ _ (hcar i t _ ht hc))
      refine ⟨t, _, rfl, SqT.of hct, rfl, _, _, rfl, _, _, rfl, _, _, rfl, rfl, rfl, yes_of ?_⟩
      refine ⟨_, rfl, _, rfl, _, Sum.inr cars[i].name, rfl, hD1, by rw [List.length_map, List.length_take]; have := CO.few; exact small1000 (by omega), fun b o e => by rw [upd_ne (ne_of_none e hD)]; exact k1 _ _ e, ?_⟩
      rw [upd_same, put_car (g := fun c => V.int c.pace) ndn hc]
    · rintro H3 ⟨k1, hD1⟩
      rw [e9] at hD1
      have hp3 := k1 _ _ hp2
      refine ⟨_, rfl, p, C, dx, _, rfl, hp3, R.cl, R.nP, (by show 1 < 1000; decide), ?_⟩
      have nDp : D ≠ p := ne_of hD1 hp3 (by intro z; cases z)
      have old4 : ∀ b o, H0 b = some o → upd H3 p (.ins C dx (df2 tr D)) b = some o := fun b o e => by rw [upd_ne (ne_of_none e p0)]; exact k1 _ _ (old2 _ _ e)
      have hp4 : upd H3 p (.ins C dx (df2 tr D)) p = some (.ins C dx (df2 tr D)) := upd_same
      have hD4 : upd H3 p (.ins C dx (df2 tr D)) D = some (.dK (paceK cars)) := by rw [upd_ne nDp]; exact hD1
      show tSeq _ _ _ _ (upd H3 p (.ins C dx (df2 tr D)))
      generalize upd H3 p (.ins C dx (df2 tr D)) = H4 at old4 hp4 hD4 ⊢
      refine ⟨_, rfl, a, rfl, ⟨_, SqT.of (old4 _ _ ha)⟩, fun D2 hD2 => ?_⟩
      refine dc_it walk_tup (fun i H3 => Same H4 H3 ∧ H3 D2 = some (.dK ((cars.take i).map fun c => ((Sum.inr c.name : Key), V.int c.start))))
        ⟨fun b o e => by rw [upd_ne (ne_of_none e hD2)]; exact e, upd_same⟩ (fun i H3 _ ⟨k1, _⟩ => SqT.of (k1 _ _ (old4 _ _ ha))) ?_ ?_
      · rintro i y H3 H5 hi ⟨k1, hD1⟩ ⟨e, hy⟩
        subst e
        obtain ⟨t, ht, rfl⟩ : ∃ t, ts[i]? = some t ∧ y = V.ref t := by
          rw [List.getElem?_map] at hy
          obtain ⟨t, z1, z2⟩ := Option.map_eq_some_iff.mp hy
          exact ⟨t, z1, z2.symm⟩
        have hic : i < cars.length := by rw [htz] at hi; exact hi
        have hc : cars[i]? = some cars[i] := List.getElem?_eq_getElem hic
        have hct := k1 _ _ (old4 _ _ (hcar i t _ ht hc))
        refine ⟨t, _, rfl, SqT.of hct, rfl, _, _, rfl, _, _, rfl, _, _, rfl, rfl, rfl, yes_of ?_⟩
        refine ⟨_, rfl, _, rfl, _, Sum.inr cars[i].name, rfl, hD1, by rw [List.length_map, List.length_take]; have := CO.few; exact small1000 (by omega), fun b o e => by rw [upd_ne (ne_of_none e hD2)]; exact k1 _ _ e, ?_⟩
        rw [upd_same, put_car (g := fun c => V.int c.start) ndn hc]
      · rintro H5 ⟨k5, hD5⟩
        rw [e9] at hD5
        have hp5 := k5 _ _ hp4
        have old5 : ∀ b o, H0 b = some o → H5 b = some o := fun b o e => k5 _ _ (old4 _ _ e)
        have T5 : Tabs T H5 := hT.ext old5
        have hD45 := k5 _ _ hD4
        have hS5 : SecsAt H5 tr secs := by
          obtain ⟨us, u1, u2, u3⟩ := hsc
          exact ⟨us, old5 _ _ u1, u2, fun i t s e1 e2 => old5 _ _ (u3 i t s e1 e2)⟩
        refine ⟨_, rfl, r, dr, _, rfl, old5 _ _ hr1, r, dr, _, _, rfl, old5 _ _ hr1, rf_sections _ _, _, rfl, _, rfl, p, C, dx, _, _, rfl, hp5, R.cl, R.nP, df2_paces _ _, ?_⟩
        refine ⟨tr, D2, D, secs, cars, rfl, hS5, hD5, hD45, SO, CO, T5, fun H6 t W L ht nt T6 => ?_⟩
        have hp6 := ExtN.ins L.ext hp5
        refine ⟨t, _, rfl, SqT.of ht, rfl, ?_⟩
        have i3 : upd H6 p (.ins C dx (df3 tr D W.lt)) p = some (.ins C dx (df3 tr D W.lt)) := upd_same
        have i4 : ∀ o, upd (upd H6 p o) p (.ins C dx (df4 tr D W.lt W.lo)) p = some (.ins C dx (df4 tr D W.lt W.lo)) := fun o => upd_same
        refine ⟨_, _, rfl, ⟨_, rfl, p, C, dx, _, rfl, hp6, R.cl, R.nT, (by show (df2 tr D).length < 1000; exact Nat.lt_of_le_of_lt (putF_len _ _ _) (by show 1 + 1 < 1000; decide)), ?_⟩⟩
        refine ⟨_, _, rfl, ⟨_, rfl, p, C, dx, _, rfl, i3, R.cl, R.nO, Nat.lt_of_le_of_lt (Nat.le_trans (putF_len _ _ _) (Nat.succ_le_succ (putF_len _ _ _))) (by show 1 + 1 + 1 < 1000; decide), ?_⟩⟩
        refine ⟨_, _, rfl, ⟨_, rfl, p, C, dx, _, rfl, i4 _, R.cl, R.nL, Nat.lt_of_le_of_lt (Nat.le_trans (putF_len _ _ _) (Nat.succ_le_succ (Nat.le_trans (putF_len _ _ _) (Nat.succ_le_succ (putF_len _ _ _))))) (by show 1 + 1 + 1 + 1 < 1000; decide), rfl, ?_⟩⟩
        have hpE : upd (upd (upd H6 p (.ins C dx (df3 tr D W.lt))) p (.ins C dx (df4 tr D W.lt W.lo))) p (.ins C dx (df5 tr D W.lt W.lo W.ll)) p = some (.ins C dx (df5 tr D W.lt W.lo W.ll)) := upd_same
        have keep : ∀ b o, H6 b = some o → b ≠ p → upd (upd (upd H6 p (.ins C dx (df3 tr D W.lt))) p (.ins C dx (df4 tr D W.lt W.lo))) p (.ins C dx (df5 tr D W.lt W.lo W.ll)) b = some o := fun b o e n => by
          rw [upd_ne n, upd_ne n, upd_ne n]
          exact e
        show Ends.nx _ _ (upd (upd (upd H6 p (.ins C dx (df3 tr D W.lt))) p (.ins C dx (df4 tr D W.lt W.lo))) p (.ins C dx (df5 tr D W.lt W.lo W.ll)))
        generalize upd (upd (upd H6 p (.ins C dx (df3 tr D W.lt))) p (.ins C dx (df4 tr D W.lt W.lo))) p (.ins C dx (df5 tr D W.lt W.lo W.ll)) = H9 at hpE keep ⊢
        have T9 : Tabs T H9 := Tabs.keepP T6 hp6 keep
        have np : ∀ b o, H6 b = some o → (∀ C d fs, o ≠ .ins C d fs) → H9 b = some o := fun b o e n => keep b o e (ne_of e hp6 (n _ _ _))
        have x05 : ExtN H0 H5 := fun b o e _ => old5 _ _ e
        refine k H9 ⟨dx, tr, D, W.lt, W.lo, W.ll, W.tds, W.ods, W.lds⟩ ?_ T9
        exact { ext := fun b o e n => keep b o (L.ext b o (old5 _ _ e) n) (ne_of_none e p0)
                ins := hpE
                sec := by
                  obtain ⟨us, u1, u2, u3⟩ := hS5
                  exact ⟨us, np _ _ (ExtN.tup L.ext u1) (fun _ _ _ z => nomatch z), u2, fun i t s e1 e2 => np _ _ (ExtN.tup L.ext (u3 i t s e1 e2)) (fun _ _ _ z => nomatch z)⟩
                pac := np _ _ (ExtN.dK L.ext hD45) (fun _ _ _ z => nomatch z)
                lt := np _ _ L.lt (fun _ _ _ z => nomatch z)
                ltl := L.ltl
                lo := np _ _ L.lo (fun _ _ _ z => nomatch z)
                lol := L.lol
                ll := np _ _ L.ll (fun _ _ _ z => nomatch z)
                lll := L.lll
                tk := fun k d h => let ⟨kv, a, b⟩ := L.tk k d h; ⟨kv, np _ _ a (fun _ _ _ z => nomatch z), b⟩
                od := fun k d h => np _ _ (L.od k d h) (fun _ _ _ z => nomatch z)
                ld := fun k d h => let ⟨kv, a, b⟩ := L.ld k d h; ⟨kv, np _ _ a (fun _ _ _ z => nomatch z), b⟩
                newp := New.of p0
                newt := New.ext x05 L.newt
                newo := New.ext x05 L.newo
                newl := New.ext x05 L.newl
                newg := fun d hd => New.ext x05 (L.newg d hd)
                nto := L.nto
                ntl := L.ntl
                nol := L.nol
                odn := L.odn }
end
end Sl

set_option Elab.async false
set_option linter.all false
set_option maxRecDepth 100000
set_option maxHeartbeats 1000000
namespace Sl
open PySem PySem.Spec L2 OwnR LamX
/-- a Drive, all of it driven -/
def DA (C : Addr) (H : Hp) (p : Addr) (secs : List Sec) (cars : List Car) : Prop := ∃ H0 W, DP C H0 H p secs cars secs.length W
theorem DA.ext {C : Addr} {H H' : Hp} {p : Addr} {secs : List Sec} {cars : List Car} (h : DA C H p secs cars) (e : ExtN H H') : DA C H' p secs cars := let ⟨H0, W, D⟩ := h; ⟨H0, W, D.step e⟩
theorem paceK_none {cars : List Car} {n : Str} (h : n ∉ names cars) : valV (paceK cars) (Sum.inr n : Key) = none := valV_names_none (g := fun c => V.int c.pace) h
theorem paceK_some (cars : List Car) (n : Str) : (valV (paceK cars) (Sum.inr n : Key)).isSome = decide (n ∈ names cars) := by
  by_cases h : n ∈ names cars
  · rw [decide_eq_true h]
    induction cars with
    | nil => cases h
    | cons a l ih =>
      by_cases e : a.name = n
      · have : valV (paceK (a :: l)) (Sum.inr n : Key) = some (V.int a.pace) := by rw [← e]; exact valV_pos rfl
        rw [this]
        rfl
      · have hne : ¬ (Sum.inr a.name : Key) = Sum.inr n := fun z => e (Sum.inr.inj z)
        have hm : n ∈ names l := by
          unfold names at h ⊢
          rw [List.map_cons, List.mem_cons] at h
          rcases h with h | h
          · exact absurd h.symm e
          · exact h
        have : valV (paceK (a :: l)) (Sum.inr n : Key) = valV (paceK l) (Sum.inr n : Key) := valV_neg hne
        rw [this]
        exact ih hm
  · rw [decide_eq_false h, paceK_none h]
    rfl
section
variable {P : Program} {w : World} {K : PySem.W.Frag} {mg : Str → Option Value} {base : Heap}
/-! ### name in drive -/
def spHas (C : Addr) : Sp := fun vs H Q _ => ∃ (p : Addr) (secs : List Sec) (cars : List Car) (n : Str), vs = [.ref p, .str n] ∧ DA C H p secs cars ∧ Q (.bl (decide (n ∈ names cars))) H
theorem scHas : FnScope ["self", "x"] ["self", "x"] (defScope sDHas) := ⟨rfl, rfl, rfl, by decide +kernel, rfl, by decide +kernel, by decide +kernel⟩
theorem ok_has {f C : Addr} {fd : FuncData} (F : Fun K "__contains__" "Drive.__contains__" sDHas f fd) (M : Mg mg) (R : DriveT K mg C) : FnOk P w K mg base CX0 1 f fd ["self", "x"] (spHas C) := by
  refine F.ok scHas (fun vs H Q E h => ?_) (fun cdv A outer s H vs Q E hr h => ?_)
  · obtain ⟨p, secs, cars, n, rfl, _⟩ := h
    rfl
  · obtain ⟨p, secs, cars, n, rfl, ⟨H0, W, D⟩, k⟩ := h
    have hu := hu_of hr
    refine ⟨_, pss_one (ps_ret (pe_and (pe_callB call_isi (by rfl) M.isinstance boot_isinstance (pa_cons (pv 1) (pa_cons (pe_bltn (v := .ty "str") (by rfl) M.str boot_tStr rfl) pa_nil))) (pe_one (pe_cmp (pc_din hu (pv 1) (pe_fld (pv 0) rfl)) (by rfl))))), ?_⟩
    refine ⟨_, rfl, _, _, _, _, true, rfl, .ty _, .base (.str n), kit_ty (by decide +kernel), true, rfl, iteT ?_⟩
    refine ⟨_, rfl, _, rfl, p, C, W.dx, _, _, rfl, D.ins, R.cl, R.nP, df5_paces _ _ _ _ _, W.pd, _, rfl, DGet.k (k := (Sum.inr n : Key)) D.pac, ?_⟩
    rw [paceK_some]
    exact k
/-! ### _check_car -/
def spCheckCar (C : Addr) : Sp := fun vs H Q _ => ∃ (p : Addr) (secs : List Sec) (cars : List Car) (n : Str), vs = [.ref p, .str n] ∧ DA C H p secs cars ∧ n ∈ names cars ∧ Q .non H
theorem scCheckCar : FnScope ["self", "name"] ["self", "name"] (defScope sDCheckCar) := ⟨rfl, rfl, rfl, by decide +kernel, rfl, by decide +kernel, by decide +kernel⟩
theorem ok_checkCar {f fH C : Addr} {fd dH : FuncData} (F : Fm K C "_check_car" "Drive._check_car" sDCheckCar ["self", "name"] f fd) (hs : PySem.W.findIn K (.ref C) "__contains__" = some (some (.ref fH))) (hf : PySem.W.isFn K (.ref fH) = true) (bH : Binds K dH ["self", "x"] [])
    (GH : FnOk P w K mg base CX0 1 fH dH ["self", "x"] (spHas C)) : FnOk P w K mg base CX0 2 f fd ["self", "name"] (spCheckCar C) := by
  refine F.fn.ok scCheckCar (fun vs H Q E h => ?_) (fun cdv A outer s H vs Q E hr h => ?_)
  · obtain ⟨p, secs, cars, n, rfl, _⟩ := h
    rfl
  · obtain ⟨p, secs, cars, n, rfl, ⟨H0, W, D⟩, hn, k⟩ := h
    refine ⟨_, pss_one (ps_if (pt_cmpR (op_notInO hs hf (GH.raw bH .nil) hr pass0) (pv 1) (pv 0) (by rfl)) (pss_one ps_never) pss_nil), ?_⟩
    refine ⟨_, rfl, _, rfl, p, W.dx, _, rfl, D.ins, p, secs, cars, n, rfl, ⟨H0, W, D⟩, _, rfl, false, ?_, iteF k⟩
    rw [decide_eq_true hn]
    rfl
/-! ### _check_place, _check_section -/
def spCheckPlace (C : Addr) : Sp := fun vs H Q _ => ∃ (p : Addr) (secs : List Sec) (cars : List Car) (k : Nat), vs = [.ref p, .int (k : Nat)] ∧ DA C H p secs cars ∧ k ≤ secs.length ∧ Q .non H
theorem scCheckPlace : FnScope ["self", "place"] ["self", "place"] (defScope sDCheckPlace) := ⟨rfl, rfl, rfl, by decide +kernel, rfl, by decide +kernel, by decide +kernel⟩
theorem ok_checkPlace {f fB C : Addr} {fd dB : FuncData} (F : Fm K C "_check_place" "Drive._check_place" sDCheckPlace ["self", "place"] f fd) (M : Mg mg) (R : DriveT K mg C) (BB : Fb K mg "is_number" sIsNumber ["value", "least", "most"] fB dB)
    (GB : FnOk P w K mg base CX0 1 fB dB ["value", "least", "most"] spIsNumber) : FnOk P w K mg base CX0 2 f fd ["self", "place"] (spCheckPlace C) := by
  refine F.fn.ok scCheckPlace (fun vs H Q E h => ?_) (fun cdv A outer s H vs Q E hr h => ?_)
  · obtain ⟨p, secs, cars, n, rfl, _⟩ := h
    rfl
  · obtain ⟨p, secs, cars, n, rfl, ⟨H0, W, D⟩, hn, k⟩ := h
    obtain ⟨us, u1, u2, u3⟩ := D.sec
    refine ⟨_, pss_one (ps_if (pt_not (pt_val (pe_call GB hr (by rfl) BB.at_ BB.fn.kp BB.bd .nil pass0 (pa_cons (pv 1) (pa_cons pe_int (pa_cons (pe_callB call_len_seq (by rfl) M.len boot_len (pa_cons (pe_fld (pv 0) rfl) pa_nil)) pa_nil)))))) (pss_one ps_never) pss_nil), ?_⟩
    refine ⟨_, rfl, _, rfl, p, C, W.dx, _, _, rfl, D.ins, R.cl, R.nS, df5_sections _ _ _ _ _, W.sc, _, rfl, .inr (SqT.of u1), (n : Nat), 0, _, rfl, true, ?_, iteF k⟩
    rw [List.length_map, u2, decide_eq_true (by omega : (0 : Int) ≤ (n : Nat)), decide_eq_true (by omega : ((n : Nat) : Int) ≤ (secs.length : Nat))]
    rfl
/-! ### drive[name] -/
def tksL (secs : List Sec) (cars : List Car) (n : Str) : List Int := (List.range (secs.length + 1)).map fun k => (plcC secs cars k).tk n
def spGet (C : Addr) : Sp := fun vs H Q _ => ∃ (p : Addr) (secs : List Sec) (cars : List Car) (n : Str), vs = [.ref p, .str n] ∧ DA C H p secs cars ∧ n ∈ names cars ∧ secs.length ≤ 12 ∧ ∀ H' t, Same H H' → H' t = some (.tup ((tksL secs cars n).map V.int)) → Q (.ref t) H'
def nDGet : List Str := ["self", "at", "ticks"]
theorem scGet : FnScope nDGet ["self", "at"] (defScope sDGet) := ⟨rfl, rfl, rfl, by decide +kernel, rfl, by decide +kernel, by decide +kernel⟩
theorem ok_get {f fC C : Addr} {fd dC : FuncData} (F : Fun K "__getitem__" "Drive.__getitem__" sDGet f fd) (M : Mg mg) (R : DriveT K mg C) (BC : Fm K C "_check_car" "Drive._check_car" sDCheckCar ["self", "name"] fC dC)
    (GC : FnOk P w K mg base CX0 2 fC dC ["self", "name"] (spCheckCar C)) : FnOk P w K mg base CX0 3 f fd ["self", "at"] (spGet C) := by
  refine F.ok scGet (fun vs H Q E h => ?_) (fun cdv A outer s H vs Q E hr h => ?_)
  · obtain ⟨p, secs, cars, n, rfl, _⟩ := h
    rfl
  · obtain ⟨p, secs, cars, n, rfl, ⟨H0, W, D⟩, hn, h12, k⟩ := h
    have nd := scGet.nd
    have hu := hu_of hr
    have noF : ∀ {m : Str}, (¬ m = "_sections") → (¬ m = "_paces") → (¬ m = "_ticks") → (¬ m = "_orders") → (¬ m = "_leaders") → (df5 W.sc W.pd W.lt W.lo W.ll).lookup m = none := fun a b c d e => df5_no _ _ _ _ _ a b c d e
    refine ⟨_, pss_cons (ps_expr (pe_meth (pv 0) R.cl BC.at_ GC hr BC.bd .nil pass0 (pa_cons (pv 1) pa_nil)))
      (pss_one (ps_ret (pe_callTy call_tuple_of (by rfl) M.tuple boot_tTuple (pa_cons (pe_lc (own := [("ticks", 2)]) (g := gName 2) (tt := tYes) (te := tDGet (tVar 2) (tVar 1)) (by rfl) nd (pi_list (pe_fld (pv 0) rfl)) (blkOk_by (N := nDGet) (sc := defScope sDGet) (by decide +kernel))
        (fun _ _ _ _ _ => pg_name (i := 2) nd rfl (Or.inl rfl)) (fun _ _ _ _ _ => pts_nil) (fun _ _ _ _ _ => pe_dget hu (pv 2) (pv 1) (fun _ _ => rfl))) pa_nil)))), ?_⟩
    refine ⟨_, rfl, p, W.dx, _, rfl, D.ins, noF (by decide +kernel) (by decide +kernel) (by decide +kernel) (by decide +kernel) (by decide +kernel), _, rfl, p, secs, cars, n, rfl, ⟨H0, W, D⟩, hn, ?_⟩
    refine ⟨_, rfl, p, C, W.dx, _, _, rfl, D.ins, R.cl, R.nT, df5_ticks _ _ _ _ _, W.lt, rfl, ⟨_, SqL.of D.lt⟩, fun L hL => ?_⟩
    have hltz : (W.tds.map V.ref).length = secs.length + 1 := by rw [List.length_map, D.ltl]
    refine lc_it walk_list (fun i H1 => Same H H1 ∧ H1 L = some (.lst (((List.range i).map fun k => (plcC secs cars k).tk n).map V.int)))
      ⟨fun b o e => by rw [upd_ne (ne_of_none e hL)]; exact e, upd_same⟩ (fun i H1 _ ⟨k1, _⟩ => SqL.of (k1 _ _ D.lt)) ?_ ?_
    · rintro i y H1 H2 hi ⟨k1, hL1⟩ ⟨e, hy⟩
      subst e
      obtain ⟨t, ht, rfl⟩ : ∃ t, W.tds[i]? = some t ∧ y = V.ref t := by
        rw [List.getElem?_map] at hy
        obtain ⟨t, z1, z2⟩ := Option.map_eq_some_iff.mp hy
        exact ⟨t, z1, z2.symm⟩
      obtain ⟨kv, a1, a2⟩ := D.tk i t ht
      refine ⟨rfl, yes_of ?_⟩
      refine ⟨_, rfl, _, rfl, t, _, rfl, gk (k1 _ _ a1) (a2 n hn), _, hL1, ?_, fun b o e => by rw [upd_ne (ne_of_none e hL)]; exact k1 _ _ e, ?_⟩
      · rw [List.length_map, List.length_map, List.length_range]
        exact small1000 (by omega)
      · rw [upd_same, List.range_succ, List.map_append, List.map_append]
        rfl
    · rintro H1 ⟨k1, hL1⟩
      rw [hltz] at hL1
      refine ⟨L, _, rfl, .inl ⟨SqL.of hL1, fun t ht => ?_⟩⟩
      exact k _ t (fun b o e => by rw [upd_ne (ne_of_none (k1 _ _ e) ht)]; exact k1 _ _ e) upd_same
end
end Sl

set_option Elab.async false
set_option linter.all false
set_option maxRecDepth 100000
set_option maxHeartbeats 1000000
namespace Sl
open PySem PySem.Spec L2 OwnR LamX
section
variable {P : Program} {w : World} {K : PySem.W.Frag} {mg : Str → Option Value} {base : Heap}
/-! ### len(drive) -/
def spLenD (C : Addr) : Sp := fun vs H Q _ => ∃ (p : Addr) (secs : List Sec) (cars : List Car), vs = [.ref p] ∧ DA C H p secs cars ∧ Q (.int (cars.length : Nat)) H
theorem scLenD : FnScope ["self"] ["self"] (defScope sDLen) := ⟨rfl, rfl, rfl, by decide +kernel, rfl, by decide +kernel, by decide +kernel⟩
theorem ok_lenD {f C : Addr} {fd : FuncData} (F : Fun K "__len__" "Drive.__len__" sDLen f fd) (M : Mg mg) (R : DriveT K mg C) : FnOk P w K mg base CX0 1 f fd ["self"] (spLenD C) := by
  refine F.ok scLenD (fun vs H Q E h => ?_) (fun cdv A outer s H vs Q E hr h => ?_)
  · obtain ⟨p, secs, cars, rfl, _⟩ := h
    rfl
  · obtain ⟨p, secs, cars, rfl, ⟨H0, W, D⟩, k⟩ := h
    refine ⟨_, pss_one (ps_ret (pe_callB call_lenD (by rfl) M.len boot_len (pa_cons (pe_fld (pv 0) rfl) pa_nil))), ?_⟩
    refine ⟨_, rfl, p, C, W.dx, _, _, rfl, D.ins, R.cl, R.nP, df5_paces _ _ _ _ _, W.pd, _, rfl, D.pac, ?_⟩
    have e : (paceK cars).length = cars.length := by unfold paceK; rw [List.length_map]
    rw [e]
    exact k
/-! ### order_at -/
def spOrderAt (C : Addr) : Sp := fun vs H Q _ => ∃ (p : Addr) (secs : List Sec) (cars : List Car) (i : Nat), vs = [.ref p, .int (i : Nat)] ∧ DA C H p secs cars ∧ i ≤ secs.length ∧ ∀ l, H l = none → Q (.ref l) (upd H l (.lst ((plcC secs cars i).ord.map V.str)))
theorem scOrderAt : FnScope ["self", "place"] ["self", "place"] (defScope sDOrderAt) := ⟨rfl, rfl, rfl, by decide +kernel, rfl, by decide +kernel, by decide +kernel⟩
theorem DP.tdk {C : Addr} {H0 H : Hp} {p : Addr} {secs : List Sec} {cars : List Car} {m : Nat} {W : DW} (D : DP C H0 H p secs cars m W) {k : Nat} (h : k ≤ m) : ∃ d, W.tds[k]? = some d := ⟨_, List.getElem?_eq_getElem (by rw [D.ltl]; omega)⟩
theorem DP.odk {C : Addr} {H0 H : Hp} {p : Addr} {secs : List Sec} {cars : List Car} {m : Nat} {W : DW} (D : DP C H0 H p secs cars m W) {k : Nat} (h : k ≤ m) : ∃ d, W.ods[k]? = some d := ⟨_, List.getElem?_eq_getElem (by rw [D.lol]; omega)⟩
theorem DP.ldk {C : Addr} {H0 H : Hp} {p : Addr} {secs : List Sec} {cars : List Car} {m : Nat} {W : DW} (D : DP C H0 H p secs cars m W) {k : Nat} (h : k < m) : ∃ d, W.lds[k]? = some d := ⟨_, List.getElem?_eq_getElem (by rw [D.lll]; omega)⟩
theorem map_at {α β : Type} {xs : List α} {k : Nat} {v : α} (f : α → β) (h : xs[k]? = some v) : (xs.map f)[k]? = some (f v) := by rw [List.getElem?_map, h]; rfl
theorem ok_orderAt {f fB C : Addr} {fd dB : FuncData} (F : Fm K C "order_at" "Drive.order_at" sDOrderAt ["self", "place"] f fd) (M : Mg mg) (R : DriveT K mg C) (BC : Fm K C "_check_place" "Drive._check_place" sDCheckPlace ["self", "place"] fB dB)
    (GC : FnOk P w K mg base CX0 2 fB dB ["self", "place"] (spCheckPlace C)) : FnOk P w K mg base CX0 3 f fd ["self", "place"] (spOrderAt C) := by
  refine F.fn.ok scOrderAt (fun vs H Q E h => ?_) (fun cdv A outer s H vs Q E hr h => ?_)
  · obtain ⟨p, secs, cars, i, rfl, _⟩ := h
    rfl
  · obtain ⟨p, secs, cars, i, rfl, ⟨H0, W, D⟩, hi, k⟩ := h
    refine ⟨_, pss_cons (ps_expr (pe_meth (pv 0) R.cl BC.at_ GC hr BC.bd .nil pass0 (pa_cons (pv 1) pa_nil)))
      (pss_one (ps_ret (pe_callTy call_list_of (by rfl) M.list (by decide +kernel) (pa_cons (pe_ix ix_list (pe_fld (pv 0) rfl) (pv 1) (fun _ _ => rfl)) pa_nil)))), ?_⟩
    obtain ⟨od, hod⟩ := D.odk hi
    refine ⟨_, rfl, p, W.dx, _, rfl, D.ins, df5_no _ _ _ _ _ (by decide +kernel) (by decide +kernel) (by decide +kernel) (by decide +kernel) (by decide +kernel), _, rfl, p, secs, cars, i, rfl, ⟨H0, W, D⟩, hi, ?_⟩
    refine ⟨_, rfl, p, C, W.dx, _, _, rfl, D.ins, R.cl, R.nO, df5_orders _ _ _ _ _, _, rfl, W.lo, _, _, .ref od, rfl, rfl, SqL.of D.lo, atI_nat (map_at V.ref hod), ?_⟩
    exact ⟨od, _, rfl, .inl (SqL.of (D.od i od hod)), k⟩
def strO (o : Option Str) : V := (o.map V.str).getD .non
/-! ### drive(name), drive(name, place) -/
def spCallD (C : Addr) : Sp := fun vs H Q _ => ∃ (p : Addr) (secs : List Sec) (cars : List Car) (n : Str) (i : Nat) (pl : V), vs = [.ref p, .str n, pl] ∧ DA C H p secs cars ∧ n ∈ names cars ∧ i ≤ secs.length ∧ ((pl = .non ∧ i = secs.length) ∨ pl = .int (i : Nat)) ∧ Q (.int ((plcC secs cars i).tk n)) H
theorem scCallD : FnScope ["self", "name", "place"] ["self", "name", "place"] (defScope sDCall) := ⟨rfl, rfl, rfl, by decide +kernel, rfl, by decide +kernel, by decide +kernel⟩
theorem ok_callD {f fB fC C : Addr} {fd dB dC : FuncData} (F : FunD K "__call__" "Drive.__call__" (defArgs sDCall) (defBody sDCall) (defScope sDCall) [.non] [] f fd) (M : Mg mg) (R : DriveT K mg C)
    (BC : Fm K C "_check_car" "Drive._check_car" sDCheckCar ["self", "name"] fC dC) (GC : FnOk P w K mg base CX0 2 fC dC ["self", "name"] (spCheckCar C))
    (BB : Fm K C "_check_place" "Drive._check_place" sDCheckPlace ["self", "place"] fB dB) (GB : FnOk P w K mg base CX0 2 fB dB ["self", "place"] (spCheckPlace C)) : FnOk P w K mg base CX0 3 f fd ["self", "name", "place"] (spCallD C) := by
  refine F.ok (CX := CX0) scCallD (fun vs H Q E h => ?_) (fun cdv A outer s H vs Q E hr h => ?_)
  · obtain ⟨p, secs, cars, n, i, pl, rfl, _⟩ := h
    rfl
  · suffices hq : ∃ t, PSs (cxOf CX0 P w K mg base ["self", "name", "place"] "Drive.__call__" (defScope sDCall) f cdv A outer s H E).nox (defBody sDCall) t ∧ t { nx := fun _ H' => Q .non H', rt := Q } (start ["self", "name", "place"] vs) H by
      obtain ⟨t, h1, h2⟩ := hq
      exact ⟨t, h1.nox, h2⟩
    obtain ⟨p, secs, cars, n, i, pl, rfl, ⟨H0, W, D⟩, hn, hi, hpl, k⟩ := h
    have hu := hu_of hr
    have nd := scCallD.nd
    refine ⟨_, pss_cons (ps_expr (pe_meth (pv 0) R.cl BC.at_ GC hr BC.bd .nil pass0 (pa_cons (pv 1) pa_nil)))
      (pss_cons (ps_if (pt_cmp (pc_isN (pv 2)) (by rfl)) (pss_one (ps_set (i := 2) nd rfl (.inl rfl) (pe_callB call_len_seq (by rfl) M.len boot_len (pa_cons (pe_fld (pv 0) rfl) pa_nil)))) pss_nil)
      (pss_cons (ps_expr (pe_meth (pv 0) R.cl BB.at_ GB hr BB.bd .nil pass0 (pa_cons (pv 2) pa_nil)))
      (pss_one (ps_ret (pe_dget hu (pe_ix ix_list (pe_fld (pv 0) rfl) (pv 2) (fun _ _ => rfl)) (pv 1) (fun _ _ => rfl)))))), ?_⟩
    obtain ⟨td, htd⟩ := D.tdk hi
    obtain ⟨kv, a1, a2⟩ := D.tk i td htd
    obtain ⟨us, u1, u2, u3⟩ := D.sec
    have nf : ∀ {m : Str}, (¬ m = "_sections") → (¬ m = "_paces") → (¬ m = "_ticks") → (¬ m = "_orders") → (¬ m = "_leaders") → (df5 W.sc W.pd W.lt W.lo W.ll).lookup m = none := fun a b c d e => df5_no _ _ _ _ _ a b c d e
    refine ⟨_, rfl, p, W.dx, _, rfl, D.ins, nf (by decide +kernel) (by decide +kernel) (by decide +kernel) (by decide +kernel) (by decide +kernel), _, rfl, p, secs, cars, n, rfl, ⟨H0, W, D⟩, hn, ?_⟩
    rcases hpl with ⟨rfl, rfl⟩ | rfl
    · refine ⟨_, rfl, _, rfl, ?_⟩
      rw [show decide (V.non = V.non) = true by simp]
      refine iteT ?_
      refine ⟨_, rfl, p, C, W.dx, _, _, rfl, D.ins, R.cl, R.nS, df5_sections _ _ _ _ _, W.sc, _, rfl, .inr (SqT.of u1), ?_⟩
      rw [List.length_map, u2]
      refine ⟨_, rfl, p, W.dx, _, rfl, D.ins, nf (by decide +kernel) (by decide +kernel) (by decide +kernel) (by decide +kernel) (by decide +kernel), _, rfl, p, secs, cars, secs.length, rfl, ⟨H0, W, D⟩, hi, ?_⟩
      refine ⟨_, rfl, p, C, W.dx, _, _, rfl, D.ins, R.cl, R.nT, df5_ticks _ _ _ _ _, _, rfl, W.lt, _, _, .ref td, rfl, rfl, SqL.of D.lt, atI_nat (map_at V.ref htd), ?_⟩
      exact ⟨_, rfl, td, _, rfl, gk a1 (a2 n hn), k⟩
    · refine ⟨_, rfl, _, rfl, ?_⟩
      rw [show decide (V.int ((i : Nat) : Int) = V.non) = false by simp]
      refine iteF ?_
      refine ⟨_, rfl, p, W.dx, _, rfl, D.ins, nf (by decide +kernel) (by decide +kernel) (by decide +kernel) (by decide +kernel) (by decide +kernel), _, rfl, p, secs, cars, i, rfl, ⟨H0, W, D⟩, hi, ?_⟩
      refine ⟨_, rfl, p, C, W.dx, _, _, rfl, D.ins, R.cl, R.nT, df5_ticks _ _ _ _ _, _, rfl, W.lt, _, _, .ref td, rfl, rfl, SqL.of D.lt, atI_nat (map_at V.ref htd), ?_⟩
      exact ⟨_, rfl, td, _, rfl, gk a1 (a2 n hn), k⟩
end
end Sl


set_option Elab.async false
set_option linter.all false
set_option maxRecDepth 100000
set_option maxHeartbeats 1000000
/-! for and if within a generator's body. -/
namespace OwnR
open PySem PySem.Spec PyProof.Rows L2 GenW
section
variable {X : Cx}
def tGIf (c : TT) (a b : TGn) : TGn := fun D ys σ H => c σ H fun d H1 => if d = true then a D ys σ H1 else b D ys σ H1
theorem gs_if {test : Expr} {a b : List Stmt} {pos : Pos} {tc : TT} {ta tb : TGn} (hc : PT X test tc) (ha : GSs X a ta) (hb : GSs X b tb) : GS X (.If test a b pos) (tGIf tc ta tb) := by
  refine ⟨fun A S ip R n ys s₀ c fs K J gd lv s σ H D g hn k hI ht => ?_⟩
  obtain ⟨acc, cc, r, I⟩ := hI
  rw [exec_If]
  refine seg_bind_wrap (wpAny_standAt ?_)
  refine seg_bind_wrap ?_
  rw [g.over]
  refine wpAny_mono (hc.run _ s σ H _ I ht) (fun d s' hd => ?_) fun x s' hx => k.exc n s₀ x s' hx
  obtain ⟨H2, I2, q2⟩ := hd
  cases d with
  | true => exact ha.run A S ip R n ys s₀ c fs K J gd lv s' σ H2 D g hn k ⟨acc, cc, r, I2⟩ q2
  | false => exact hb.run A S ip R n ys s₀ c fs K J gd lv s' σ H2 D g hn k ⟨acc, cc, r, I2⟩ q2
end
section
variable {prog : Program} {w : World} {A : Around} {R : GenEnd} {Y : Protocol} {n : Nat} {s₀ : Shared} {fs : List Frame} {s : Shared} {env : Env}
abbrev noteE (env : Env) (e : Value) : Sem PySem.Fin := (do noteFrame e env; theTreesLotGoes e : Sem Unit).wrap (fun _ => .raise e) .raise id id
theorem seg_forTurn {tg : Expr} {it : Value} {body : List Stmt}
    (h : wpAny (model prog w) (A.over (.forLoop tg it body [] env) fs) (pyNext it) (fun r s1 => match r with
        | none => Seg (model prog w) A R Y n s₀ (.forLoop tg it body [] env) (.pure (.again (.block [] env))) fs s1
        | some v => wpAny (model prog w) (A.over (.forLoop tg it body [] env) fs) (letOwnedTupleGo tg it v) (fun _ s2 => wpAny (model prog w) (A.over (.forLoop tg it body [] env) fs) (assign tg env v) (fun _ s3 =>
            Seg (model prog w) A R Y n s₀ (.forLoop tg it body [] env) ((execs body env).wrap (fun f => match f with
              | .next | .cont => .pure (.again (.forLoop tg it body [] env))
              | .brk => .pure (.done .next)
              | .ret v => .pure (.done (.ret v))) (noteE env) id id) fs s3)
            (fun x s' => Seg (model prog w) A R Y n s₀ (.forLoop tg it body [] env) (noteE env x) fs s') s2)
          (fun x s' => Seg (model prog w) A R Y n s₀ (.forLoop tg it body [] env) (noteE env x) fs s') s1)
      (fun x s' => Seg (model prog w) A R Y n s₀ (.forLoop tg it body [] env) (noteE env x) fs s') s) :
    Seg (model prog w) A R Y n s₀ (.forLoop tg it body [] env) ((model prog w).den (.forLoop tg it body [] env)) fs s := by
  have ee : ∀ x s', Seg (model prog w) A R Y n s₀ (.forLoop tg it body [] env) (noteE env x) fs s' → Seg (model prog w) A R Y n s₀ (.forLoop tg it body [] env) ((do noteFrame x env; theTreesLotGoes x : Sem Unit).bind fun _ => (.raise x : Sem PySem.Fin)) fs s' := fun x s' hx => by
    rw [Sem.bind_eq_wrap]
    exact hx
  show Seg _ A R Y n s₀ _ ((forTurn tg it body [] env).onRaise (fun x => do noteFrame x env; theTreesLotGoes x)) fs s
  unfold forTurn
  rw [Sem.onRaise_eq_wrap]
  refine seg_bind_wrap (wpAny_standAt ?_)
  refine seg_bind_wrap (wpAny_onRaise (wpAny_mono h (fun r s1 h1 => ?_) fun x s' hx => wpAny_standAt (ee x s' hx)))
  cases r with
  | none => exact h1
  | some v =>
    refine seg_bind_wrap (wpAny_mono h1 (fun _ s2 h2 => ?_) fun x s' hx => ee x s' hx)
    refine seg_bind_wrap (wpAny_mono h2 (fun _ s3 h3 => ?_) fun x s' hx => ee x s' hx)
    rw [Sem.bind_eq_wrap', Sem.wrap_wrap]
    rw [Sem.wrap_congr (execs body env) _ _ (K' := fun f => match f with
            | .next | .cont => .pure (.again (.forLoop tg it body [] env))
            | .brk => .pure (.done .next)
            | .ret v => .pure (.done (.ret v))) (H' := noteE env)
        (fun f => by cases f <;> rfl)
        (fun e => by first | exact Sem.bind_eq_wrap _ _ | (show (do noteFrame e env; theTreesLotGoes e : Sem Unit).bind (fun _ => .raise e) = _; rw [Sem.bind_eq_wrap]))]
    exact h3
end
section
variable {X : Cx}
def tGFor (wi : TI) (g : TG) (tb : TGn) : TGn := fun D ys σ H => wi σ H fun J H1 => ∃ W : Nat → Nat → List V → L2.St → Hp → Prop, (∃ m, W 0 m ys σ H1) ∧ ∀ i m ys σ H, W i m ys σ H →
  (J.stop i H ∧ D.nx ys σ H) ∨ (J.go i H ∧ ∃ N : List V → L2.St → Hp → Prop, (∀ ys' σ' H', N ys' σ' H' → ∃ m', m' < m ∧ W (i + 1) m' ys' σ' H') ∧ ∀ x H', J.yld i H x H' → g x σ H' fun σ2 H2 => tb { D with nx := N, ct := N, bk := D.nx } ys σ2 H2)
theorem gi_fewer {S : Addr} {ip pl : List (Addr × Obj)} {ys : List V} {σ : L2.St} {H : Hp} {s : Shared} (h : GI X S (ip ++ pl) ys σ H s) : GI X S ip ys σ H s := by
  obtain ⟨acc, c, r, I⟩ := h
  exact ⟨acc, c, r, Inv.unpinned (pins := (S, lstObj acc c) :: ip) (pl := pl) I⟩
theorem gs_for {tg iter : Expr} {body : List Stmt} {wi : TI} {g : TG} {tb : TGn} {pos : Pos} (hp : PassesOwn (model X.prog X.w) X.A X.env X.xe) (hc : X.calm = true) (hi : PI X tg iter wi) (hg : PG X tg g) (hb : GSs X body tb)
    (hs : ∀ x, foldedSetIterable iter X.env x = pure x := by intro _; rfl) : GS X (.For tg iter body [] pos) (tGFor wi g tb) := by
  refine ⟨fun A S ip R n ys s₀ c fs K J gd lv s σ H D gc hn k hI ht => ?_⟩
  obtain ⟨acc, cc, r, I⟩ := hI
  rw [exec_For]
  refine seg_bind_wrap (wpAny_standAt ?_)
  refine seg_bind_wrap ?_
  rw [gc.over]
  refine wpAny_mono (hi.run _ s σ H _ I ht) (fun v s1 h1 => ?_) fun x s' hx => k.exc n s₀ x s' hx
  refine seg_bind_wrap (wpAny_of_eq (hs v) ?_)
  refine seg_bind_wrap (wpAny_standAt ?_)
  refine seg_bind_wrap (wpAny_holding ?_)
  rw [gc.over]
  refine wpAny_mono h1 (fun itv s2 h2 => ?_) fun x s' hx => k.exc n s₀ x s' hx
  obtain ⟨it, fp, tn, J', H2, e, I2, T, st2, f2, W, ⟨m0, w0⟩, turn⟩ := h2
  subst e
  refine seg_call fun p => ?_
  have gl := fun (kk : Result → Sem PySem.Fin) => gc_loop (k := kk) (c' := .forLoop tg (.ref it) body [] X.env) (l := lv []) (kp := []) (p := p) gc rfl rfl
  have glb := fun (kk : Result → Sem PySem.Fin) => gc_loop (k := kk) (c' := .block [] X.env) (l := lv []) (kp := []) (p := p) gc rfl rfl
  have nS : ∀ b ∈ fp, b ≠ S := fun b hb => ((f2 b hb).2.2.2.2.2 (S, lstObj acc cc) (List.mem_append_right _ List.mem_cons_self)).symm
  have stat : ∀ {H' : Hp} {a2 : Array Value} {c2 : Nat}, (∀ b ∈ fp, H' b = none) → ∀ b ∈ fp, FpOk X ((S, lstObj a2 c2) :: ip) H' b := fun hn b hb => by
    obtain ⟨_, q1, q2, q3, q4, q5⟩ := f2 b hb
    refine ⟨hn b hb, q1, q2, q3, q4, fun p hp => ?_⟩
    rcases List.mem_append.mp hp with z | z
    · exact q5 p (List.mem_append_left _ z)
    · rcases List.mem_cons.mp z with z | z
      · rw [z]
        exact (nS b hb).symm
      · exact q5 p (List.mem_append_right _ (List.mem_cons_of_mem _ z))
  have loop : ∀ (m i n : Nat) (ys : List V) (s₀ s : Shared) (σ : L2.St) (H : Hp), n + ys.length = sizeLine → W i m ys σ H → GI X S ip ys σ H s → tn i s.heap → (∀ b ∈ fp, H b = none) →
      Seg (model X.prog X.w) A R (GY X S) n s₀ (.forLoop tg (.ref it) body [] X.env) ((model X.prog X.w).den (.forLoop tg (.ref it) body [] X.env))
        (.ret (fun r => ((match r with | .ok f => (.pure f : Sem Flow) | .error e => .raise e).onRaise (cameBack X.env)).wrap K J gd lv) none (gd false) (lv []) c p [] :: fs) s := by
    intro m
    induction m using Nat.strongRecOn with
    | ind m ih =>
      intro i n ys s₀ s σ H hn w hI st fr
      have ee : ∀ (n : Nat) (s₀ : Shared) (x : Value) (s' : Shared), X.xe x s' → Seg (model X.prog X.w) A R (GY X S) n s₀ (.forLoop tg (.ref it) body [] X.env) (noteE X.env x)
          (.ret (fun r => ((match r with | .ok f => (.pure f : Sem Flow) | .error e => .raise e).onRaise (cameBack X.env)).wrap K J gd lv) none (gd false) (lv []) c p [] :: fs) s' := fun n s₀ x s' hx => by
        refine seg_wrap ?_
        rw [(gl _).over]
        refine wpAny_bind (wpAny_mono (hp x s' hx) (fun _ s'' hcb => wpAny_theTreesLotGoes ?_) fun y s'' hcb => ?_)
        · exact seg_leaf (.error x) (seg_cameBack gc k hcb)
        · exact seg_leaf (.error y) (seg_cameBack gc k hcb)
      refine seg_forTurn ?_
      rw [(gl _).over]
      obtain ⟨acc, cc, r, I⟩ := hI
      rcases turn i m ys σ H w with ⟨stop, qn⟩ | ⟨go, N, hN, step⟩
      · refine wpAny_mono (T.done X rfl rfl rfl hc i _ s σ H X.xe I (stat fr) st stop) (fun r s4 ⟨hr, I4⟩ => ?_) fun x s' hx => ee n s₀ x s' hx
        subst hr
        refine seg_again rfl ?_
        exact seg_leaf (.ok .next) (k.ok n ys s₀ s4 .next hn ⟨σ, H, ⟨acc, cc, r, I4⟩, qn⟩)
      · refine wpAny_mono (T.item X rfl rfl rfl hc i _ s σ H X.xe I (stat fr) st go) (fun r0 s4 ⟨u, hr, h4⟩ => ?_) fun x s' hx => ee n s₀ x s' hx
        subst hr
        refine wpAny_mono h4 (fun _ s5 ⟨x, H5, I5, r5, y5, st5, fr5⟩ => ?_) fun x s' hx => ee n s₀ x s' hx
        have I5' := I5.pinned (stat fr5) (T.obj _ _ st5)
        refine wpAny_mono (hg.run _ s5 σ H5 x u _ I5' r5 (step x H5 y5)) (fun _ s6 ⟨σ6, H6, I6, q6⟩ => ?_) fun x s' hx => ee n s₀ x s' hx
        have gl2 : GC X S (ip ++ pinsAt fp s5.heap) A (.forLoop tg (.ref it) body [] X.env) (.ret (fun r => ((match r with | .ok f => (.pure f : Sem Flow) | .error e => .raise e).onRaise (cameBack X.env)).wrap K J gd lv) none (gd false) (lv []) c p [] :: fs) id :=
          { gl _ with ip := fun q hq => (List.mem_append.mp hq).elim (fun z => gc.ip q z) fun z => nS _ (of_pinsAt z).1 }
        have again : ∀ {n' : Nat} {ys' : List V} {s₀' s7 : Shared} {σ7 : L2.St} {H7 : Hp}, n' + ys'.length = sizeLine → GI X S (ip ++ pinsAt fp s5.heap) ys' σ7 H7 s7 → N ys' σ7 H7 →
            Seg (model X.prog X.w) A R (GY X S) n' s₀' (.forLoop tg (.ref it) body [] X.env) (.pure (.again (.forLoop tg (.ref it) body [] X.env)))
              (.ret (fun r => ((match r with | .ok f => (.pure f : Sem Flow) | .error e => .raise e).onRaise (cameBack X.env)).wrap K J gd lv) none (gd false) (lv []) c p [] :: fs) s7 := fun {n' ys' s₀' s7 σ7 H7} hn' G7 n7 => by
          obtain ⟨m', hm, w7⟩ := hN ys' σ7 H7 n7
          obtain ⟨acc7, c7, r7, I7⟩ := id G7
          refine seg_again rfl (ih m' hm (i + 1) n' ys' s₀' s7 σ7 H7 hn' w7 (gi_fewer G7) (T.keep _ _ _ st5 fun b hb o e => ?_) fun b hb => ?_)
          · exact (I7.pin (b, o) (List.mem_append_right _ (List.mem_cons_of_mem _ (List.mem_append_right _ (mem_pinsAt hb e))))).1
          · obtain ⟨o, e, d⟩ := T.obj _ _ st5 b hb
            exact (I7.pin (b, o) (List.mem_append_right _ (List.mem_cons_of_mem _ (List.mem_append_right _ (mem_pinsAt hb e))))).2.1
        refine hb.run A S (ip ++ pinsAt fp s5.heap) R n ys s₀ _ _ _ _ id id s6 σ6 H6 { D with nx := N, ct := N, bk := D.nx } gl2 hn ⟨fun n' ys' s₀' s7 f hn' hs => ?_, fun n' s₀' x s7 hx => ee n' s₀' x s7 hx⟩ ⟨acc, cc, r, I6⟩ q6
        cases f with
        | next => obtain ⟨σ7, H7, G7, n7⟩ := hs; exact again hn' G7 n7
        | cont => obtain ⟨σ7, H7, G7, n7⟩ := hs; exact again hn' G7 n7
        | brk => obtain ⟨σ7, H7, G7, q7⟩ := hs; exact seg_leaf (.ok .next) (k.ok n' ys' s₀' s7 .next hn' ⟨σ7, H7, (gi_fewer G7), q7⟩)
        | ret v => obtain ⟨x7, σ7, H7, G7, r7, q7⟩ := hs; exact seg_leaf (.ok (.ret v)) (k.ok n' ys' s₀' s7 (.ret v) hn' ⟨x7, σ7, H7, (gi_fewer G7), r7, q7⟩)
  exact loop m0 0 n ys s₀ s2 σ H2 hn w0 ⟨acc, cc, r, I2⟩ st2 fun b hb => (f2 b hb).1
/-- over any walk -/
theorem gfor_it {J : It} {n : Nat} {G : Hp → Prop} {Y : Nat → Hp → V → Hp → Prop} (w : Walk J n G Y) {g : TG} {tb : TGn} {D : GEnds} {ys : List V} {σ : L2.St} {H : Hp} (Pv : Nat → List V → L2.St → Hp → Prop) (h0 : Pv 0 ys σ H) (hG : ∀ i ys σ H, i ≤ n → Pv i ys σ H → G H)
    (hs : ∀ i x ys σ H H', i < n → Pv i ys σ H → Y i H x H' → g x σ H' fun σ2 H2 => tb { D with nx := Pv (i + 1), ct := Pv (i + 1), bk := D.nx } ys σ2 H2) (hd : ∀ ys σ H, Pv n ys σ H → D.nx ys σ H) :
    ∃ W : Nat → Nat → List V → L2.St → Hp → Prop, (∃ m, W 0 m ys σ H) ∧ ∀ i m ys σ H, W i m ys σ H →
      (J.stop i H ∧ D.nx ys σ H) ∨ (J.go i H ∧ ∃ N : List V → L2.St → Hp → Prop, (∀ ys' σ' H', N ys' σ' H' → ∃ m', m' < m ∧ W (i + 1) m' ys' σ' H') ∧ ∀ x H', J.yld i H x H' → g x σ H' fun σ2 H2 => tb { D with nx := N, ct := N, bk := D.nx } ys σ2 H2) := by
  refine ⟨fun i m ys σ H => m = n - i ∧ i ≤ n ∧ Pv i ys σ H, ⟨n, by simp, Nat.zero_le _, h0⟩, ?_⟩
  rintro i m ys σ H ⟨rfl, hi, p⟩
  have q := hG i ys σ H hi p
  by_cases hlt : i < n
  · exact .inr ⟨w.goes i H hlt q, Pv (i + 1), fun ys' σ' H' p' => ⟨n - (i + 1), by omega, rfl, hlt, p'⟩, fun x H' y => hs i x ys σ H H' hlt p (w.yields i H x H' hlt q y)⟩
  · have e : i = n := by omega
    subst e
    exact .inl ⟨w.stops H q, hd ys σ H p⟩
end
end OwnR

set_option Elab.async false
set_option linter.all false
set_option maxRecDepth 100000
set_option maxHeartbeats 1000000
namespace Sl
open PySem PySem.Spec L2 OwnR LamX
/-! ### overtakings -/
def posL (n : Str) : List Str → Nat
  | [] => 0
  | a :: r => if a = n then 0 else posL n r + 1
theorem posL_at {n : Str} : ∀ {l : List Str}, n ∈ l → l[posL n l]? = some n
  | a :: r, h => by
    unfold posL
    by_cases e : a = n
    · rw [if_pos e, e]
      rfl
    · rw [if_neg e]
      have hm : n ∈ r := (List.mem_cons.mp h).elim (fun z => absurd z.symm e) id
      have := posL_at hm
      simpa using this
theorem posL_not {n : Str} : ∀ {l : List Str} {m : Nat} {z : Str}, l[m]? = some z → m < posL n l → z ≠ n
  | a :: r, m, z, h, hm => by
    unfold posL at hm
    by_cases e : a = n
    · rw [if_pos e] at hm
      omega
    · rw [if_neg e] at hm
      cases m with
      | zero =>
        have : a = z := by simpa using h
        rw [← this]
        exact e
      | succ m => exact posL_not (l := r) (m := m) (by simpa using h) (by omega)
abbrev OvT := Nat × Str × Str
def ovIn (after : List Str) (k i : Nat) (n : Str) (l : List Str) : List OvT := (l.filter fun o => decide (o ∈ after.drop (i + 1))).map fun o => (k, n, o)
def ovMid (before after : List Str) (k i : Nat) : List OvT := match after[i]? with
  | some n => ovIn after k i n (before.take (posL n before))
  | none => []
def ovSec (before after : List Str) (k i : Nat) : List OvT := (List.range i).flatMap (ovMid before after k)
def ovAll (secs : List Sec) (cars : List Car) (i : Nat) : List OvT := (List.range i).flatMap fun k => ovSec (plcC secs cars k).ord (plcC secs cars (k + 1)).ord k cars.length
theorem ovIn_snoc (after : List Str) (k i : Nat) (n : Str) (l : List Str) (o : Str) : ovIn after k i n (l ++ [o]) = ovIn after k i n l ++ (if o ∈ after.drop (i + 1) then [(k, n, o)] else []) := by
  unfold ovIn
  rw [List.filter_append, List.map_append]
  by_cases h : o ∈ after.drop (i + 1)
  · rw [if_pos h]
    simp [h]
  · rw [if_neg h]
    simp [h]
theorem ovSec_succ (before after : List Str) (k i : Nat) : ovSec before after k (i + 1) = ovSec before after k i ++ ovMid before after k i := by
  unfold ovSec
  rw [List.range_succ, List.flatMap_append]
  simp
theorem ovAll_succ (secs : List Sec) (cars : List Car) (i : Nat) : ovAll secs cars (i + 1) = ovAll secs cars i ++ ovSec (plcC secs cars i).ord (plcC secs cars (i + 1)).ord i cars.length := by
  unfold ovAll
  rw [List.range_succ, List.flatMap_append]
  simp
theorem ovIn_len (after : List Str) (k i : Nat) (n : Str) (l : List Str) : (ovIn after k i n l).length ≤ l.length := by
  unfold ovIn
  rw [List.length_map]
  exact List.length_filter_le _ _
theorem ovMid_len {before : List Str} (after : List Str) (k i : Nat) {b : Nat} (h : before.length ≤ b) : (ovMid before after k i).length ≤ b := by
  unfold ovMid
  split
  · refine Nat.le_trans (ovIn_len _ _ _ _ _) ?_
    rw [List.length_take]
    omega
  · exact Nat.zero_le _
theorem ovSec_len {before : List Str} (after : List Str) (k : Nat) {b : Nat} (h : before.length ≤ b) : ∀ i, (ovSec before after k i).length ≤ i * b
  | 0 => by simp [ovSec]
  | i + 1 => by
    have h1 := ovSec_len after k h i
    have h2 := ovMid_len after k i h
    rw [ovSec_succ, List.length_append, Nat.succ_mul]
    omega
theorem ovAll_len {secs : List Sec} {cars : List Car} (h : cars.length ≤ 10) : ∀ i, (ovAll secs cars i).length ≤ i * 100
  | 0 => by simp [ovAll]
  | i + 1 => by
    have h1 := ovAll_len (secs := secs) h i
    have h2 : (ovSec (plcC secs cars i).ord (plcC secs cars (i + 1)).ord i cars.length).length ≤ cars.length * 10 := ovSec_len _ _ (by
      rw [(plcC_perm secs cars i).length_eq]
      unfold names
      rw [List.length_map]
      exact h) _
    rw [ovAll_succ, List.length_append, Nat.succ_mul]
    omega
def ovV (q : OvT) : List V := [.int (q.1 : Nat), .str q.2.1, .str q.2.2]
def OvAt (H : Hp) (ys : List V) (l : List OvT) : Prop := ys.length = l.length ∧ ∀ (j : Nat) (y : V) (q : OvT), ys[j]? = some y → l[j]? = some q → ∃ t, y = .ref t ∧ H t = some (.tup (ovV q))
theorem OvAt.keep {H H' : Hp} {ys : List V} {l : List OvT} (h : OvAt H ys l) (e : Same H H') : OvAt H' ys l := ⟨h.1, fun j y q e1 e2 => let ⟨t, z1, z2⟩ := h.2 j y q e1 e2; ⟨t, z1, e _ _ z2⟩⟩
theorem OvAt.more {H : Hp} {ys : List V} {l : List OvT} {q : OvT} {t : Addr} (h : OvAt H ys l) (e : H t = some (.tup (ovV q))) : OvAt H (ys ++ [.ref t]) (l ++ [q]) := by
  refine ⟨by rw [List.length_append, List.length_append, h.1]; rfl, fun j y p e1 e2 => ?_⟩
  rcases snoc_get e1 with e1 | ⟨hj, rfl⟩
  · have hj := (List.getElem?_eq_some_iff.mp e1).1
    rw [List.getElem?_append_left (by rw [← h.1]; exact hj)] at e2
    exact h.2 j y p e1 e2
  · rcases snoc_get e2 with e2 | ⟨_, rfl⟩
    · have := (List.getElem?_eq_some_iff.mp e2).1
      rw [h.1] at hj
      omega
    · exact ⟨t, rfl, e⟩
theorem cut_to {l : List V} {k : Nat} (h : k ≤ l.length) : cutV l none (some (k : Nat)) = l.take k := by
  unfold cutV
  have e : HT.sIx l.length l.length (some ((k : Nat) : Int)) = k := by
    show (if ((k : Nat) : Int) < 0 then (((k : Nat) : Int) + ((l.length : Nat) : Int)).toNat else min (((k : Nat) : Int)).toNat l.length) = k
    rw [if_neg (by omega)]
    omega
  have e0 : HT.sIx l.length 0 none = 0 := rfl
  rw [e, e0]
  simp
theorem cut_from {l : List V} {k : Nat} (h : k ≤ l.length) : cutV l (some (k : Nat)) none = l.drop k := by
  unfold cutV
  have e : HT.sIx l.length 0 (some ((k : Nat) : Int)) = k := by
    show (if ((k : Nat) : Int) < 0 then (((k : Nat) : Int) + ((l.length : Nat) : Int)).toNat else min (((k : Nat) : Int)).toNat l.length) = k
    rw [if_neg (by omega)]
    omega
  have e0 : HT.sIx l.length l.length none = l.length := rfl
  rw [e, e0]
  apply List.take_of_length_le
  rw [List.length_drop]
  exact Nat.le_refl _
section
variable {P : Program} {w : World} {K : PySem.W.Frag} {mg : Str → Option Value} {base : Heap}
end
end Sl

set_option Elab.async false
set_option linter.all false
set_option maxRecDepth 100000
set_option maxHeartbeats 1000000
namespace Sl
open PySem PySem.Spec L2 OwnR LamX
/-! ### losses -/
def unitsN (secs : List Sec) : Nat := (secs.map (·.2)).sum
def lossOf (secs : List Sec) (cars : List Car) (c : Car) : Int := (plcC secs cars secs.length).tk c.name - startOf cars c.name - c.pace * ((unitsN secs : Nat) : Int)
def lossK (secs : List Sec) (cars : List Car) : List (Key × V) := cars.map fun c => (Sum.inr c.name, V.int (lossOf secs cars c))
theorem sum_int : ∀ l : List Nat, (l.map fun n => ((n : Nat) : Int)).sum = ((l.sum : Nat) : Int)
  | [] => rfl
  | a :: r => by
    rw [List.map_cons, List.sum_cons, List.sum_cons, sum_int r]
    omega
theorem gkR {H : Hp} {a : Addr} {kvs : List (Key × V)} {n : Str} {v : V} (e : Rd H a (.dK kvs)) (h : valV kvs (Sum.inr n : Key) = some v) : DGet H a (.str n) (some v) := .inl ⟨kvs, Sum.inr n, e, rfl, h.symm⟩
section
variable {P : Program} {w : World} {K : PySem.W.Frag} {mg : Str → Option Value} {base : Heap}
end
end Sl

set_option Elab.async false
set_option linter.all false
set_option maxRecDepth 100000
set_option maxHeartbeats 1000000
namespace Sl
open PySem PySem.Spec L2 OwnR LamX
/-! ### the law's row of drawn numbers -/
def KeepB (r : Addr) (H H' : Hp) : Prop := ∀ b o, H b = some o → b ≠ r → H' b = some o
theorem KeepB.refl (r : Addr) (H : Hp) : KeepB r H H := fun _ _ e _ => e
theorem KeepB.trans {r : Addr} {H H1 H2 : Hp} (a : KeepB r H H1) (b : KeepB r H1 H2) : KeepB r H H2 := fun x o e n => b x o (a x o e n) n
theorem KeepB.of {r : Addr} {H H1 : Hp} (a : Same H H1) : KeepB r H H1 := fun x o e _ => a x o e
theorem KeepB.upd {r : Addr} {H : Hp} (o : HO) : KeepB r H (upd H r o) := fun x p e n => by rw [upd_ne n]; exact e
structure RowAt (K : PySem.W.Frag) (H : Hp) (r sc : Addr) (ns : List Int) : Prop where
  at_ : ∃ (a : Nat) (b c : Int), H r = some (.lst [.ref sc, .int (a : Nat), .int b, .int c])
  scr : ∀ H', KeepB r H H' → SqL K H' sc (ns.map V.int)
theorem KeepB.sqL {K : PySem.W.Frag} {r a : Addr} {H H' : Hp} {xs : List V} (k : KeepB r H H') (n : a ≠ r) (h : SqL K H a xs) : SqL K H' a xs := by
  rcases h with (h | ⟨o, h⟩) | h
  · exact .inl (.inl (k _ _ h n))
  · exact .inl (.inr ⟨o, k _ _ h n⟩)
  · exact .inr h
theorem RowAt.put {K : PySem.W.Frag} {H : Hp} {r sc : Addr} {ns : List Int} (R : RowAt K H r sc ns) (a : Nat) (b c : Int) : RowAt K (upd H r (.lst [.ref sc, .int (a : Nat), .int b, .int c])) r sc ns :=
  ⟨⟨a, b, c, upd_same⟩, fun H' k => R.scr H' ((KeepB.upd _).trans k)⟩
theorem RowAt.same {K : PySem.W.Frag} {H H' : Hp} {r sc : Addr} {ns : List Int} (R : RowAt K H r sc ns) (e : Same H H') : RowAt K H' r sc ns :=
  ⟨let ⟨a, b, c, h⟩ := R.at_; ⟨a, b, c, e _ _ h⟩, fun H2 k => R.scr H2 ((KeepB.of e).trans k)⟩
theorem RowAt.now {K : PySem.W.Frag} {H : Hp} {r sc : Addr} {ns : List Int} (R : RowAt K H r sc ns) : SqL K H sc (ns.map V.int) := R.scr H (KeepB.refl _ _)
section
variable {P : Program} {w : World} {K : PySem.W.Frag} {mg : Str → Option Value} {base : Heap}
def spTaken (K : PySem.W.Frag) : Sp := fun vs H Q _ => ∃ (r sc : Addr) (ns : List Int) (m : Nat), vs = [.ref r, .int (m : Nat)] ∧ 1 ≤ m ∧ m ≤ 1000 ∧ RowAt K H r sc ns ∧ ∀ H' (q : Nat), KeepB r H H' → RowAt K H' r sc ns → q < m → Q (.int (q : Nat)) H'
def nTaken : List Str := ["_law_row", "_law_many", "_law_found", "_law_cell"]
theorem scTaken : FnScope nTaken ["_law_row", "_law_many"] (defScope sTaken) := ⟨rfl, rfl, rfl, by decide +kernel, rfl, by decide +kernel, by decide +kernel⟩
theorem mod_nat (z : Int) {m : Nat} (h : 1 ≤ m) : ∃ q : Nat, z % (m : Int) = (q : Int) ∧ q < m := by
  have h1 := Int.emod_nonneg z (show (m : Int) ≠ 0 by omega)
  have h2 := Int.emod_lt_of_pos z (show (0 : Int) < m by omega)
  exact ⟨(z % (m : Int)).toNat, by omega, by omega⟩
theorem ok_taken {f : Addr} {fd : FuncData} (F : Fun K "_law_taken" "_law_taken" sTaken f fd) (M : Mg mg) : FnOk P w K mg base CX0 1 f fd ["_law_row", "_law_many"] (spTaken K) := by
  refine F.ok scTaken (fun vs H Q E h => ?_) (fun cdv A outer s H vs Q E hr h => ?_)
  · obtain ⟨r, sc, ns, m, rfl, _⟩ := h
    rfl
  · obtain ⟨r, sc, ns, m, rfl, h1, h1000, ⟨⟨a, b, c, hrow⟩, hsc⟩, k⟩ := h
    have nd := scTaken.nd
    refine ⟨_, pss_cons (ps_if (pt_cmpR op_gt (pe_ix ix_list (pv 0) pe_int (fun _ _ => rfl)) pe_int (nomark _))
        (pss_cons (ps_set (i := 2) nd rfl (.inl rfl) (pe_op op_mod (pe_callTy call_int1 (by rfl) M.int boot_tInt (pa_cons (pe_ix ix_list (pv 0) pe_int (fun _ _ => rfl)) pa_nil)) (pv 1)))
        (pss_cons (ps_asg (pe_op op_fdiv (pe_ix ix_list (pv 0) pe_int (fun _ _ => rfl)) (pv 1)) (pg_sub (pv 0) pe_int set_list))
        (pss_one (ps_ret (pv 2))))) pss_nil)
      (pss_cons (ps_asg (pe_op op_add (pe_ix ix_list (pv 0) pe_int (fun _ _ => rfl)) pe_int) (pg_sub (pv 0) pe_int set_list))
      (pss_cons (ps_if (pt_cmpR op_gt (pe_ix ix_list (pv 0) pe_int (fun _ _ => rfl)) (pe_callB call_len_seq (by rfl) M.len boot_len (pa_cons (pe_ix ix_list (pv 0) pe_int (fun _ _ => rfl)) pa_nil)) (nomark _))
        (pss_cons (ps_asg (pe_op op_mod (pe_callTy call_int1 (by rfl) M.int boot_tInt (pa_cons (pe_op op_add (pe_op op_mul (pe_ix ix_list (pv 0) pe_int (fun _ _ => rfl)) pe_int) pe_int) pa_nil)) pe_int) (pg_sub (pv 0) pe_int set_list))
        (pss_one (ps_ret (pe_op op_mod (pe_callTy call_int1 (by rfl) M.int boot_tInt (pa_cons (pe_op op_fdiv (pe_ix ix_list (pv 0) pe_int (fun _ _ => rfl)) pe_int) pa_nil)) (pv 1))))) pss_nil)
      (pss_cons (ps_set (i := 3) nd rfl (.inl rfl) (pe_ix ix_list (pe_ix ix_list (pv 0) pe_int (fun _ _ => rfl)) (pe_op op_sub (pe_ix ix_list (pv 0) pe_int (fun _ _ => rfl)) pe_int) (fun _ _ => rfl)))
      (pss_cons (ps_asg (pe_op op_mod (pe_callTy call_int1 (by rfl) M.int boot_tInt (pa_cons (pe_op op_add (pe_op op_add (pe_op op_mul (pe_ix ix_list (pv 0) pe_int (fun _ _ => rfl)) pe_int) (pv 3)) pe_int) pa_nil)) pe_int) (pg_sub (pv 0) pe_int set_list))
      (pss_cons (ps_asg (pe_ifExp (pt_cmpR op_ge (pv 3) (pe_op op_pow pe_int pe_int) (nomark _)) (pe_op op_fdiv (pv 3) (pv 1)) pe_int) (pg_sub (pv 0) pe_int set_list))
      (pss_one (ps_ret (pe_op op_mod (pe_callTy call_int1 (by rfl) M.int boot_tInt (pa_cons (pv 3) pa_nil)) (pv 1))))))))), ?_⟩
    have at0 : ∀ (x y z v : V), atI [x, y, z, v] 0 = some x := fun _ _ _ _ => rfl
    have at1 : ∀ (x y z v : V), atI [x, y, z, v] 1 = some y := fun _ _ _ _ => rfl
    have at2 : ∀ (x y z v : V), atI [x, y, z, v] 2 = some z := fun _ _ _ _ => rfl
    have at3 : ∀ (x y z v : V), atI [x, y, z, v] 3 = some v := fun _ _ _ _ => rfl
    have R0 : RowAt K H r sc ns := ⟨⟨a, b, c, hrow⟩, hsc⟩
    have md : ∀ z : Int, ∃ q : Nat, z % ((m : Nat) : Int) = (q : Int) ∧ q < m := fun z => mod_nat z h1
    refine ⟨_, rfl, r, _, 3, _, rfl, rfl, SqL.of hrow, at3 _ _ _ _, _, _, rfl, rfl, _, rfl, ?_⟩
    by_cases hc : 0 < c
    · rw [decide_eq_true hc]
      refine iteT ?_
      obtain ⟨q, eq, hq⟩ := md c
      refine ⟨_, rfl, r, _, 3, _, rfl, rfl, SqL.of hrow, at3 _ _ _ _, .inl ⟨c, rfl, _, rfl, _, _, rfl, rfl, by omega, ?_⟩⟩
      refine ⟨_, rfl, r, _, 3, _, rfl, rfl, SqL.of hrow, at3 _ _ _ _, _, rfl, _, _, rfl, rfl, ⟨by omega, by omega⟩, ?_⟩
      refine ⟨_, rfl, r, _, 3, 3, rfl, rfl, hrow, rfl, ?_⟩
      have z := k _ q (KeepB.upd _) (R0.put a b (c / ((m : Nat) : Int))) hq
      rw [← eq] at z
      exact ⟨_, rfl, z⟩
    · rw [decide_eq_false hc]
      refine iteF ?_
      refine ⟨_, rfl, r, _, 1, _, rfl, rfl, SqL.of hrow, at1 _ _ _ _, _, _, rfl, rfl, ?_⟩
      refine ⟨_, rfl, r, _, 1, 1, rfl, rfl, hrow, rfl, ?_⟩
      have hrow1 : upd H r (.lst ([V.ref sc, .int ((a : Nat) : Int), .int b, .int c].set 1 (.int (((a : Nat) : Int) + 1)))) r = some (.lst [V.ref sc, .int (((a + 1 : Nat)) : Int), .int b, .int c]) := by
        rw [upd_same]
        rfl
      have R1 : RowAt K (upd H r (.lst ([V.ref sc, .int ((a : Nat) : Int), .int b, .int c].set 1 (.int (((a : Nat) : Int) + 1))))) r sc ns := R0.put (a + 1) b c
      have k1 : KeepB r H (upd H r (.lst ([V.ref sc, .int ((a : Nat) : Int), .int b, .int c].set 1 (.int (((a : Nat) : Int) + 1))))) := KeepB.upd _
      show tSeq _ _ _ _ (upd H r (.lst ([V.ref sc, .int ((a : Nat) : Int), .int b, .int c].set 1 (.int (((a : Nat) : Int) + 1)))))
      generalize upd H r (.lst ([V.ref sc, .int ((a : Nat) : Int), .int b, .int c].set 1 (.int (((a : Nat) : Int) + 1)))) = H1 at hrow1 R1 k1 ⊢
      refine ⟨_, rfl, r, _, 1, _, rfl, rfl, SqL.of hrow1, at1 _ _ _ _, _, rfl, r, _, 0, _, rfl, rfl, SqL.of hrow1, at0 _ _ _ _, sc, _, rfl, .inl R1.now, _, _, rfl, rfl, _, rfl, ?_⟩
      by_cases hl : (((ns.map V.int).length : Nat) : Int) < (((a + 1 : Nat)) : Int)
      · rw [decide_eq_true hl]
        refine iteT ?_
        refine ⟨_, rfl, r, _, 2, _, rfl, rfl, SqL.of hrow1, at2 _ _ _ _, _, _, rfl, rfl, .inr ⟨by decide, by decide⟩, _, _, rfl, rfl, .inl ⟨_, rfl, _, _, rfl, rfl, (show (0 : Int) < 2147483647 by decide), ?_⟩⟩
        refine ⟨_, rfl, r, _, 2, 2, rfl, rfl, hrow1, rfl, ?_⟩
        have hrow2 : upd H1 r (.lst ([V.ref sc, .int (((a + 1 : Nat)) : Int), .int b, .int c].set 2 (.int ((b * 48271 + 11) % 2147483647)))) r = some (.lst [V.ref sc, .int (((a + 1 : Nat)) : Int), .int ((b * 48271 + 11) % 2147483647), .int c]) := by
          rw [upd_same]
          rfl
        refine ⟨_, rfl, r, _, 2, _, rfl, rfl, SqL.of hrow2, at2 _ _ _ _, _, _, rfl, rfl, ⟨by decide, by decide⟩, .inl ⟨_, rfl, _, rfl, _, _, rfl, rfl, by omega, ?_⟩⟩
        obtain ⟨q, eq, hq⟩ := md ((b * 48271 + 11) % 2147483647 / 7)
        have z := k _ q (k1.trans (KeepB.upd _)) (R1.put (a + 1) ((b * 48271 + 11) % 2147483647) c) hq
        rw [← eq] at z
        exact z
      · rw [decide_eq_false hl]
        refine iteF ?_
        rw [List.length_map] at hl
        have hal : a < ns.length := by omega
        obtain ⟨cell, hcell⟩ : ∃ z, ns[a]? = some z := ⟨_, List.getElem?_eq_getElem hal⟩
        refine ⟨_, rfl, r, _, 0, _, rfl, rfl, SqL.of hrow1, at0 _ _ _ _, _, rfl, r, _, 1, _, rfl, rfl, SqL.of hrow1, at1 _ _ _ _, _, _, rfl, rfl, sc, _, ((a : Nat) : Int), .int cell, rfl, ?_, R1.now, atI_nat (map_at V.int hcell), ?_⟩
        · show V.int ((((a + 1 : Nat)) : Int) - 1) = V.int ((a : Nat) : Int)
          congr 1
          omega
        refine ⟨_, rfl, r, _, 2, _, rfl, rfl, SqL.of hrow1, at2 _ _ _ _, _, _, rfl, rfl, .inr ⟨by decide, by decide⟩, _, rfl, _, _, rfl, rfl, _, _, rfl, rfl, .inl ⟨_, rfl, _, _, rfl, rfl, (show (0 : Int) < 2147483647 by decide), ?_⟩⟩
        refine ⟨_, rfl, r, _, 2, 2, rfl, rfl, hrow1, rfl, ?_⟩
        have hrow2 : upd H1 r (.lst ([V.ref sc, .int (((a + 1 : Nat)) : Int), .int b, .int c].set 2 (.int ((b * 48271 + cell + 11) % 2147483647)))) r = some (.lst [V.ref sc, .int (((a + 1 : Nat)) : Int), .int ((b * 48271 + cell + 11) % 2147483647), .int c]) := by
          rw [upd_same]
          rfl
        have R2 : RowAt K (upd H1 r (.lst ([V.ref sc, .int (((a + 1 : Nat)) : Int), .int b, .int c].set 2 (.int ((b * 48271 + cell + 11) % 2147483647))))) r sc ns := R1.put (a + 1) _ c
        have k2 := k1.trans (KeepB.upd (r := r) (H := H1) (.lst ([V.ref sc, .int (((a + 1 : Nat)) : Int), .int b, .int c].set 2 (.int ((b * 48271 + cell + 11) % 2147483647)))))
        show tSeq _ _ _ _ (upd H1 r (.lst ([V.ref sc, .int (((a + 1 : Nat)) : Int), .int b, .int c].set 2 (.int ((b * 48271 + cell + 11) % 2147483647)))))
        generalize upd H1 r (.lst ([V.ref sc, .int (((a + 1 : Nat)) : Int), .int b, .int c].set 2 (.int ((b * 48271 + cell + 11) % 2147483647)))) = H2 at hrow2 R2 k2 ⊢
        refine ⟨_, rfl, _, _, rfl, rfl, ⟨by decide, by decide, by decide⟩, _, _, rfl, rfl, _, rfl, ?_⟩
        obtain ⟨q, eq, hq⟩ := md cell
        by_cases hb : (10 : Int) ^ (18 : Int).toNat ≤ cell
        · rw [decide_eq_true hb]
          refine iteT ?_
          refine ⟨_, rfl, _, rfl, _, _, rfl, rfl, ⟨by omega, by omega⟩, ?_⟩
          refine ⟨_, rfl, r, _, 3, 3, rfl, rfl, hrow2, rfl, ?_⟩
          refine ⟨_, rfl, .inl ⟨_, rfl, _, rfl, _, _, rfl, rfl, by omega, ?_⟩⟩
          have z := k _ q (k2.trans (KeepB.upd _)) (R2.put (a + 1) ((b * 48271 + cell + 11) % 2147483647) (cell / ((m : Nat) : Int))) hq
          rw [← eq] at z
          exact z
        · rw [decide_eq_false hb]
          refine iteF ?_
          refine ⟨_, rfl, r, _, 3, 3, rfl, rfl, hrow2, rfl, ?_⟩
          refine ⟨_, rfl, .inl ⟨_, rfl, _, rfl, _, _, rfl, rfl, by omega, ?_⟩⟩
          have z := k _ q (k2.trans (KeepB.upd _)) (R2.put (a + 1) ((b * 48271 + cell + 11) % 2147483647) 0) hq
          rw [← eq] at z
          exact z
end
end Sl

set_option Elab.async false
set_option linter.all false
set_option maxRecDepth 100000
set_option maxHeartbeats 1000000
namespace Sl
open PySem PySem.Spec L2 OwnR LamX
/-! ### runs of random units -/
theorem rstep_same (acc : List (Bool × Nat)) (b : Bool) (n : Nat) (h : acc.getLast? = some (b, n)) : rstep acc b = acc.dropLast ++ [(b, n + 1)] := by
  unfold rstep
  rw [h]
  simp
theorem rstep_last (acc : List (Bool × Nat)) (b : Bool) : ∃ n, (rstep acc b).getLast? = some (b, n) := by
  unfold rstep
  split
  · exact ⟨1, rfl⟩
  · rename_i k n h
    split
    · rename_i e
      exact ⟨n + 1, by rw [List.getLast?_append, e]; rfl⟩
    · exact ⟨1, by rw [List.getLast?_append]; rfl⟩
theorem rstep_again (acc : List (Bool × Nat)) (b : Bool) {n : Nat} (h : acc.getLast? = some (b, n)) : (rstep acc b).length = acc.length := by
  rw [rstep_same acc b n h, List.length_append, List.length_dropLast]
  have : acc ≠ [] := fun z => by rw [z] at h; cases h
  have := List.length_pos_iff.mpr this
  simp
  omega
theorem runs_rep (b : Bool) : ∀ (n : Nat) (acc : List (Bool × Nat)) (m : Nat), acc.getLast? = some (b, m) → ((List.replicate n b).foldl rstep acc).length = acc.length
  | 0, acc, m, h => rfl
  | n + 1, acc, m, h => by
    rw [List.replicate_succ, List.foldl_cons]
    obtain ⟨q, hq⟩ := rstep_last acc b
    rw [runs_rep b n _ q hq, rstep_again acc b h]
theorem runsOf_more (bs : List Bool) (b : Bool) (n : Nat) : (runsOf (bs ++ List.replicate n b)).length ≤ (runsOf bs).length + 1 := by
  unfold runsOf
  rw [List.foldl_append]
  generalize List.foldl rstep [] bs = acc
  cases n with
  | zero => simp
  | succ n =>
    rw [List.replicate_succ, List.foldl_cons]
    obtain ⟨q, hq⟩ := rstep_last acc b
    rw [runs_rep b n _ q hq]
    exact rstep_len acc b
theorem runsOf_bound (bs : List Bool) : ∀ s ∈ runsOf bs, 1 ≤ s.2 ∧ s.2 ≤ bs.length := by
  have h : ∀ (l : List Bool) (acc : List (Bool × Nat)) (m : Nat), (∀ s ∈ acc, 1 ≤ s.2 ∧ s.2 ≤ m) → ∀ s ∈ l.foldl rstep acc, 1 ≤ s.2 ∧ s.2 ≤ m + l.length := by
    intro l
    induction l with
    | nil => intro acc m h; simpa using h
    | cons b r ih =>
      intro acc m h s hs
      have h2 : ∀ s ∈ rstep acc b, 1 ≤ s.2 ∧ s.2 ≤ m + 1 := by
        intro s hs
        unfold rstep at hs
        split at hs
        · rw [List.mem_singleton.mp hs]
          exact ⟨Nat.le_refl _, by omega⟩
        · rename_i k n e
          have he := h (k, n) (List.mem_of_getLast? e)
          split at hs
          · rcases List.mem_append.mp hs with hs | hs
            · have := h s ((List.dropLast_sublist acc).subset hs)
              omega
            · rw [List.mem_singleton.mp hs]
              exact ⟨by show 1 ≤ n + 1; omega, by show n + 1 ≤ m + 1; have := he.2; simp at this; omega⟩
          · rcases List.mem_append.mp hs with hs | hs
            · have := h s hs
              omega
            · rw [List.mem_singleton.mp hs]
              exact ⟨Nat.le_refl _, by show 1 ≤ m + 1; omega⟩
      have := ih (rstep acc b) (m + 1) h2 s hs
      rw [List.length_cons]
      omega
  have := h bs [] 0 (fun s hs => nomatch hs)
  simpa [runsOf] using this
theorem runsOf_ne {bs : List Bool} (h : bs ≠ []) : runsOf bs ≠ [] := by
  obtain ⟨r, x, rfl⟩ : ∃ r x, bs = r ++ [x] := ⟨bs.dropLast, bs.getLast h, (List.dropLast_concat_getLast h).symm⟩
  rw [runsOf_snoc]
  intro z
  obtain ⟨n, hn⟩ := rstep_last (runsOf r) x
  rw [z] at hn
  cases hn
theorem secsOk_runs {bs : List Bool} {m : Nat} (h1 : 1 ≤ bs.length) (h2 : bs.length ≤ 99) (h3 : (runsOf bs).length ≤ 12) : SecsOk (runsOf bs) :=
  ⟨runsOf_ne fun z => by rw [z] at h1; simp at h1, h3, fun s hs => let ⟨a, b⟩ := runsOf_bound bs s hs; ⟨a, by omega⟩⟩
section
variable {P : Program} {w : World} {K : PySem.W.Frag} {mg : Str → Option Value} {base : Heap}
def spUnits (K : PySem.W.Frag) : Sp := fun vs H Q _ => ∃ (r sc : Addr) (ns : List Int) (m : Nat), vs = [.ref r, .int (m : Nat)] ∧ 1 ≤ m ∧ m ≤ 12 ∧ RowAt K H r sc ns ∧
  ∀ H' (u : Str) (bs : List Bool), KeepB r H H' → RowAt K H' r sc ns → u.cps.toList = bs.map letterC → 1 ≤ bs.length → bs.length ≤ m * 6 → (runsOf bs).length ≤ m → Q (.str u) H'
def nUnits : List Str := ["_law_row", "_law_most", "_law_units_here", "_law_k"]
theorem scUnits : FnScope nUnits ["_law_row", "_law_most"] (defScope sUnits) := ⟨rfl, rfl, rfl, by decide +kernel, rfl, by decide +kernel, by decide +kernel⟩
theorem nw_at (b : Bool) : atI (("nw" : Str).cps.toList) (if b then 1 else 0) = some (letterC b) := by cases b <;> decide +kernel
theorem ok_units {f fT : Addr} {fd dT : FuncData} (F : Fun K "_law_units" "_law_units" sUnits f fd) (M : Mg mg) (BT : Fb K mg "_law_taken" sTaken ["_law_row", "_law_many"] fT dT)
    (GT : FnOk P w K mg base CX0 1 fT dT ["_law_row", "_law_many"] (spTaken K)) : FnOk P w K mg base CX0 2 f fd ["_law_row", "_law_most"] (spUnits K) := by
  refine F.ok scUnits (fun vs H Q E h => ?_) (fun cdv A outer s H vs Q E hr h => ?_)
  · obtain ⟨r, sc, ns, m, rfl, _⟩ := h
    rfl
  · obtain ⟨r, sc, ns, m, rfl, h1, h12, R0, k⟩ := h
    have nd := scUnits.nd
    refine ⟨_, pss_cons (ps_set (i := 2) nd rfl (.inl rfl) pe_str)
      (pss_cons (ps_for PassesOwn.never rfl (pi_range1 (by rfl) M.range (pa_cons (pe_op op_add pe_int (pe_call GT hr (by rfl) BT.at_ BT.fn.kp BT.bd .nil pass0 (pa_cons (pv 0) (pa_cons (pv 1) pa_nil)))) pa_nil)) (pg_name (i := 3) nd rfl (.inl rfl))
        (pss_one (ps_set (i := 2) nd rfl (.inl rfl) (pe_op op_add_str (pv 2) (pe_op op_repS (pe_ix ix_str pe_str (pe_op op_mod (pe_callTy call_int1 (by rfl) M.int boot_tInt (pa_cons (pe_op op_add (pv 3) (pe_call GT hr (by rfl) BT.at_ BT.fn.kp BT.bd .nil pass0 (pa_cons (pv 0) (pa_cons pe_int pa_nil)))) pa_nil)) pe_int) (fun _ _ => rfl))
          (pe_op op_add pe_int (pe_call GT hr (by rfl) BT.at_ BT.fn.kp BT.bd .nil pass0 (pa_cons (pv 0) (pa_cons (pe_ix ix_list (pe_lst (pa_cons pe_int (pa_cons pe_int pa_nil))) (pe_call GT hr (by rfl) BT.at_ BT.fn.kp BT.bd .nil pass0 (pa_cons (pv 0) (pa_cons pe_int pa_nil))) (fun _ _ => rfl)) pa_nil)))))))))
      (pss_one (ps_ret (pv 2)))), ?_⟩
    refine ⟨_, rfl, _, rfl, r, sc, ns, m, rfl, h1, by omega, R0, fun H1 q k1 R1 hq => ?_⟩
    refine ⟨_, _, rfl, rfl, (1 + ((q : Nat) : Int)), rfl, by omega, by omega, ?_⟩
    have en : (1 + ((q : Nat) : Int)).toNat = q + 1 := by omega
    rw [en]
    refine for_it walk_range (fun i σ H2 => ∃ (u : Str) (bs : List Bool) (v3 : Option V), σ = [some (.ref r), some (.int ((m : Nat) : Int)), some (.str u), v3] ∧ KeepB r H H2 ∧ RowAt K H2 r sc ns ∧ u.cps.toList = bs.map letterC ∧ i ≤ bs.length ∧ bs.length ≤ i * 6 ∧ (runsOf bs).length ≤ i)
      ⟨"", [], none, rfl, k1, R1, by decide +kernel, Nat.le_refl _, Nat.le_refl _, Nat.le_refl _⟩ (fun _ _ _ _ _ => True.intro) ?_ ?_
    · rintro i x σ H2 H3 hi ⟨u, bs, v3, rfl, k2, R2, hu, b1, b6, hb⟩ ⟨e, ex⟩
      have ex2 : x = V.int ((i : Nat) : Int) := by
        rw [ex]
        show V.int (0 + ((i : Nat) : Int)) = _
        rw [Int.zero_add]
      clear ex
      subst e ex2
      refine ⟨_, rfl, _, rfl, _, rfl, r, sc, ns, 2, rfl, by omega, by omega, R2, fun H4 q1 k4 R4 hq1 => ?_⟩
      obtain ⟨b, hb2⟩ : ∃ b : Bool, (((i : Nat) : Int) + ((q1 : Nat) : Int)) % 2 = if b then 1 else 0 := by
        rcases Int.emod_two_eq (((i : Nat) : Int) + ((q1 : Nat) : Int)) with z | z
        · exact ⟨false, z⟩
        · exact ⟨true, z⟩
      refine ⟨_, _, rfl, rfl, .inl ⟨_, rfl, _, _, rfl, rfl, (show (0 : Int) < 2 by decide), ("nw" : Str), _, letterC b, rfl, rfl, by decide, ?_, ?_⟩⟩
      · rw [hb2]
        exact nw_at b
      refine ⟨_, rfl, by show 2 ≤ sizeLine; decide, fun l hl => ?_⟩
      have s5 : Same H4 (upd H4 l (.lst [.int 2, .int 6])) := fun b o e => by rw [upd_ne (ne_of_none e hl)]; exact e
      have R5 := R4.same s5
      refine ⟨_, rfl, r, sc, ns, 2, rfl, by omega, by omega, R5, fun H6 q2 k6 R6 hq2 => ?_⟩
      have hl6 : H6 l = some (.lst [.int 2, .int 6]) := k6 _ _ upd_same fun z => by
        obtain ⟨a, b', c, h⟩ := R4.at_
        rw [z, h] at hl
        cases hl
      obtain ⟨m2, hm2, hm6, hat⟩ : ∃ m2 : Nat, 1 ≤ m2 ∧ m2 ≤ 6 ∧ atI [V.int 2, V.int 6] ((q2 : Nat) : Int) = some (V.int ((m2 : Nat) : Int)) := by
        have : q2 = 0 ∨ q2 = 1 := by omega
        rcases this with z | z
        · exact ⟨2, by decide, by decide, by rw [z]; rfl⟩
        · exact ⟨6, by decide, by decide, by rw [z]; rfl⟩
      refine ⟨l, _, _, _, rfl, rfl, SqL.of hl6, hat, r, sc, ns, m2, rfl, hm2, by omega, R6, fun H7 q3 k7 R7 hq3 => ?_⟩
      refine ⟨_, _, rfl, rfl, ?_⟩
      rw [letterS_eq]
      have el : (letterS b).length = 1 := by cases b <;> decide +kernel
      refine ⟨letterS b, q3 + 1, rfl, by show V.int (1 + ((q3 : Nat) : Int)) = _; congr 1; omega, by omega, by omega, by rw [el]; omega, fun z hz => ?_⟩
      have ez : z.cps.toList = (List.replicate (q3 + 1) b).map letterC := by
        rw [hz, letter_toList, List.map_replicate]
        induction (q3 + 1) with
        | zero => rfl
        | succ n ih => rw [List.replicate_succ, List.flatten_cons, ih, List.replicate_succ]; rfl
      have lu : u.length = bs.length := by
        have := congrArg List.length hu
        show u.cps.size = bs.length
        simpa using this
      have lz : z.length = q3 + 1 := by
        have := congrArg List.length ez
        show z.cps.size = q3 + 1
        simpa using this
      have hi7 : i < q + 1 := hi
      refine ⟨u, z, rfl, rfl, by rw [lu, lz]; exact Nat.le_of_lt (small1000 (by omega)), ?_⟩
      refine ⟨_, bs ++ List.replicate (q3 + 1) b, _, rfl, k2.trans (k4.trans ((KeepB.of s5).trans (k6.trans k7))), R7, ?_, by simp; omega, by simp; omega, Nat.le_trans (runsOf_more bs b (q3 + 1)) (by omega)⟩
      show ((u ++ z).cps).toList = _
      rw [List.map_append, ← hu, ← ez]
      show (u.cps ++ z.cps).toList = _
      simp
    · rintro σ H2 ⟨u, bs, v3, rfl, k2, R2, hu, b1, b6, hb⟩
      exact ⟨_, rfl, k H2 u bs k2 R2 hu (by omega) (by omega) (by omega)⟩
end
end Sl

set_option Elab.async false
set_option linter.all false
set_option maxRecDepth 100000
set_option maxHeartbeats 1000000
namespace Sl
open PySem PySem.Spec L2 OwnR LamX
/-! ### data that is compared -/
def Shp (n : Nat) (d : PyData) : Prop := d.canLay0 = true ∧ d.depth ≤ n
theorem Shp.ok {n : Nat} {d : PyData} (h : Shp n d) (hn : n ≤ 64) : SeqAt.shaped d = true := by
  unfold SeqAt.shaped
  rw [h.1, decide_eq_true (Nat.le_trans h.2 hn)]
  rfl
theorem shp_all {n : Nat} : ∀ {ds : List PyData}, (∀ d ∈ ds, Shp n d) → PyData.canLayAll0 ds = true ∧ PyData.depthAll ds ≤ n
  | [], _ => ⟨rfl, Nat.zero_le _⟩
  | d :: ds, h => by
    have h1 := h d List.mem_cons_self
    have h2 := shp_all (ds := ds) fun e he => h e (List.mem_cons_of_mem _ he)
    refine ⟨?_, ?_⟩
    · show (d.canLay0 && PyData.canLayAll0 ds) = true
      rw [h1.1, h2.1]
      rfl
    · show max d.depth (PyData.depthAll ds) ≤ n
      exact Nat.max_le.mpr ⟨h1.2, h2.2⟩
theorem shp_list {n : Nat} {ds : List PyData} (h : ∀ d ∈ ds, Shp n d) : Shp (n + 1) (.list ds) := ⟨(shp_all h).1, Nat.succ_le_succ (shp_all h).2⟩
theorem shp_tuple {n : Nat} {ds : List PyData} (h : ∀ d ∈ ds, Shp n d) : Shp (n + 1) (.tuple ds) := ⟨(shp_all h).1, Nat.succ_le_succ (shp_all h).2⟩
theorem shp_int (i : Int) : Shp 0 (.int i) := ⟨rfl, Nat.le_refl _⟩
theorem shp_non : Shp 0 .none := ⟨rfl, Nat.le_refl _⟩
theorem shp_str {x : Str} (h : PyData.strOk x = true) : Shp 0 (.str x) := ⟨h, Nat.le_refl _⟩
theorem Shp.same {n : Nat} {d : PyData} (h : Shp n d) : PyData.eqv d d = true := SeqAt.eqv_refl d h.1
theorem dp_refs {K : PySem.W.Frag} {H : Hp} {α : Type} (f : α → PyData) : ∀ {as : List Addr} {l : List α}, as.length = l.length → (∀ (i : Nat) (a : Addr) (x : α), as[i]? = some a → l[i]? = some x → Dp K H (.ref a) (f x)) → DpAll K H (as.map V.ref) (l.map f)
  | [], [], _, _ => .nil
  | a :: as, x :: l, hl, h => .cons (h 0 a x rfl rfl) (dp_refs f (by simpa using hl) fun i b y e1 e2 => h (i + 1) b y (by simpa using e1) (by simpa using e2))
theorem dp_vals {K : PySem.W.Frag} {H : Hp} {α : Type} (v : α → V) (f : α → PyData) (h : ∀ x, Dp K H (v x) (f x)) : ∀ (l : List α), DpAll K H (l.map v) (l.map f)
  | [] => .nil
  | x :: l => .cons (h x) (dp_vals v f h l)
/-- sections as data -/
def secD (s : Sec) : PyData := .tuple [.str (kindS s.1), .int (s.2 : Nat)]
def secsD (secs : List Sec) : PyData := .list (secs.map secD)
theorem kind_ok (b : Bool) : PyData.strOk (kindS b) = true := by cases b <;> decide +kernel
theorem shp_secD (s : Sec) : Shp 1 (secD s) := shp_tuple fun d hd => by
  rcases List.mem_cons.mp hd with e | hd
  · rw [e]; exact shp_str (kind_ok _)
  · rw [List.mem_singleton.mp hd]; exact shp_int _
theorem shp_secsD (secs : List Sec) : Shp 2 (secsD secs) := shp_list fun d hd => by
  obtain ⟨s, _, rfl⟩ := List.mem_map.mp hd
  exact shp_secD s
theorem dp_secV {K : PySem.W.Frag} {H : Hp} {t : Addr} {s : Sec} (h : H t = some (.tup (secV s))) : Dp K H (.ref t) (secD s) := .tup (SqT.of h) (.cons (.str _) (.cons (.int _) .nil))
theorem RunsAt.dp {K : PySem.W.Frag} {H : Hp} {a : Addr} {secs : List Sec} (h : RunsAt H a secs) : Dp K H (.ref a) (secsD secs) := by
  obtain ⟨ts, h1, h2, h3⟩ := h
  exact .lst (SqL.of h1) (dp_refs secD h2 fun i b s e1 e2 => dp_secV (h3 i b s e1 e2))
theorem RunsAt.ext {H H' : Hp} {a : Addr} {secs : List Sec} (h : RunsAt H a secs) (e : ExtN H H') : RunsAt H' a secs := by
  obtain ⟨ts, h1, h2, h3⟩ := h
  exact ⟨ts, ExtN.lst e h1, h2, fun i b s e1 e2 => ExtN.tup e (h3 i b s e1 e2)⟩
theorem shp_nil : Shp 1 (.list []) := shp_list fun d hd => nomatch hd
theorem kindS_inj (a b : Bool) : decide (V.str (kindS a) = V.str (kindS b)) = decide (a = b) := by cases a <;> cases b <;> decide +kernel
theorem ixN_last {n m : Nat} (h : n = m + 1) : ixN n (-1) = some m := by
  unfold ixN
  rw [if_neg (by omega), if_pos (by omega)]
  congr 1
  omega
theorem set_last {α : Type} (A : List α) (x v : α) {m : Nat} (h : A.length = m) : (A ++ [x]).set m v = A ++ [v] := by
  subst h
  induction A with
  | nil => rfl
  | cons a r ih => rw [List.cons_append, List.length_cons, List.set_cons_succ, ih]; rfl
theorem kindIf (b : Bool) {σ : L2.St} {H : Hp} {G : V → Hp → Prop} (h : G (.str (kindS b)) H) : if (!b) = true then tC (.str "narrow") σ H G else tC (.str "wide") σ H G := by
  cases b
  · exact h
  · exact h
section
variable {P : Program} {w : World} {K : PySem.W.Frag} {mg : Str → Option Value} {base : Heap}
def spSections : Sp := fun vs H Q _ => ∃ (u : Str) (bs : List Bool), vs = [.str u] ∧ u.cps.toList = bs.map letterC ∧ bs.length ≤ 1000 ∧ ∀ H' p, Same H H' → H p = none → RunsAt H' p (runsOf bs) → Q (.ref p) H'
def nSections : List Str := ["_law_units_here", "_law_found", "_law_sign", "_law_kind"]
theorem scSections : FnScope nSections ["_law_units_here"] (defScope sSections) := ⟨rfl, rfl, rfl, by decide +kernel, rfl, by decide +kernel, by decide +kernel⟩
theorem ok_sections {f : Addr} {fd : FuncData} (F : Fun K "_law_sections" "_law_sections" sSections f fd) (M : Mg mg) : FnOk P w K mg base CX0 1 f fd ["_law_units_here"] spSections := by
  refine F.ok scSections (fun vs H Q E h => ?_) (fun cdv A outer s H vs Q E hr h => ?_)
  · obtain ⟨u, bs, rfl, _⟩ := h
    rfl
  · obtain ⟨u, bs, rfl, hu, hlen, k⟩ := h
    have nd := scSections.nd
    have hu64 := hr.units
    refine ⟨_, pss_cons (ps_set (i := 1) nd rfl (.inl rfl) (pe_lst pa_nil))
      (pss_cons (ps_for PassesOwn.never rfl (pi_str (pv 0)) (pg_name (i := 2) nd rfl (.inl rfl))
        (pss_cons (ps_set (i := 3) nd rfl (.inl rfl) (pe_ifExp (pt_cmpR op_eq (pv 2) pe_str (nomark _)) pe_str pe_str))
        (pss_one (ps_if (PW.pt (pw_and (pt_cmpR (op_neD hu64) (pv 1) (pe_lst pa_nil) (nomark _)) (pw_and1 (pt_cmpR op_eq (pe_ix ix_tup (pe_ix ix_list (pv 1) (pe_un un_neg pe_int) (fun _ _ => rfl)) pe_int (fun _ _ => rfl)) (pv 3) (nomark _)))))
          (pss_one (ps_asg (pe_tup (pa_cons (pv 3) (pa_cons (pe_op op_add (pe_ix ix_tup (pe_ix ix_list (pv 1) (pe_un un_neg pe_int) (fun _ _ => rfl)) pe_int (fun _ _ => rfl)) pe_int) pa_nil))) (pg_sub (pv 1) (pe_un un_neg pe_int) set_list)))
          (pss_one (ps_expr (pe_bm PySem.F.plainAttrs_list PySem.F.slot_list_append PySem.F.type_list_append mt_append (pv 1) (pa_cons (pe_tup (pa_cons (pv 3) (pa_cons pe_int pa_nil))) pa_nil))))))))
      (pss_one (ps_ret (pv 1)))), ?_⟩
    refine ⟨Nat.zero_le _, fun L hL => ?_⟩
    have hsz : u.cps.size = bs.length := by
      have := congrArg List.length hu
      simpa using this
    refine ⟨_, rfl, u, rfl, for_it walk_str (fun i σ H1 => ∃ v2 v3, σ = [some (.str u), some (.ref L), v2, v3] ∧ Same H H1 ∧ RunsAt H1 L (runsOf (bs.take i)))
      ⟨none, none, rfl, fun b o e => by rw [upd_ne (ne_of_none e hL)]; exact e, [], upd_same, rfl, fun j a s e => by simp at e⟩ (fun _ _ _ _ _ => True.intro) ?_ ?_⟩
    · rintro i x σ H1 H2 hi ⟨v2, v3, rfl, s1, I⟩ ⟨e, c, hc, ex⟩
      subst e
      have hib : i < bs.length := by rw [hsz] at hi; exact hi
      obtain ⟨b, hb⟩ : ∃ b, bs[i]? = some b := ⟨_, List.getElem?_eq_getElem hib⟩
      have ecb : c = letterC b := by
        have h1 : u.cps.toList[i]? = some c := by simpa using hc
        rw [hu, List.getElem?_map, hb] at h1
        exact (Option.some.inj h1).symm
      rw [ecb, letterS_eq] at ex
      subst ex
      rw [tk1 hb, runsOf_snoc]
      have hlen2 : (runsOf (bs.take i)).length ≤ 999 := Nat.le_trans (runsOf_len _) (by rw [List.length_take]; omega)
      generalize runsOf (bs.take i) = acc at *
      refine ⟨_, rfl, rfl, _, rfl, ?_⟩
      have el : decide (V.str (letterS b) = V.str "n") = !b := by cases b <;> decide +kernel
      rw [el]
      refine kindIf b ?_
      obtain ⟨ts, hL2, hts, htv⟩ := I
      refine ⟨_, rfl, Nat.zero_le _, fun e he => ?_⟩
      have nLe : L ≠ e := ne_of_none hL2 he
      have s3 : Same H2 (upd H2 e (.lst [])) := fun b o e' => by rw [upd_ne (ne_of_none e' he)]; exact e'
      have I3 : RunsAt (upd H2 e (.lst [])) L acc := ⟨ts, s3 _ _ hL2, hts, fun i t s e1 e2 => s3 _ _ (htv i t s e1 e2)⟩
      have hL3 := s3 _ _ hL2
      have s03 := s1.trans s3
      have h3 : ∀ (i : Nat) (t : Addr) (s : Sec), ts[i]? = some t → acc[i]? = some s → upd H2 e (.lst []) t = some (.tup (secV s)) := fun i t s e1 e2 => s3 _ _ (htv i t s e1 e2)
      refine ⟨secsD acc, .list [], I3.dp, .lst (SqL.of upd_same) .nil, (shp_secsD acc).ok (by decide), shp_nil.ok (by decide), ?_⟩
      have happ : ∀ (H4 : Hp) (t : Addr), Same (upd H2 e (.lst [])) H4 → H4 t = none → RunsAt (upd (upd H4 t (.tup [.str (kindS b), .int 1])) L (.lst (ts.map V.ref ++ [.ref t]))) L (acc ++ [(b, 1)]) := fun H4 t s4 ht => by
        have nLt : L ≠ t := ne_of_none (s4 _ _ hL3) ht
        refine ⟨ts ++ [t], by rw [upd_same, List.map_append]; rfl, by rw [List.length_append, List.length_append, hts]; rfl, fun i a s e1 e2 => ?_⟩
        rcases snoc_get e1 with e1 | ⟨hi2, rfl⟩
        · have hlt := (List.getElem?_eq_some_iff.mp e1).1
          rw [List.getElem?_append_left (by rw [← hts]; exact hlt)] at e2
          have q := s4 _ _ (h3 i a s e1 e2)
          rw [upd_ne (ne_of q (s4 _ _ hL3) (by intro z; cases z)), upd_ne (ne_of_none q ht)]
          exact q
        · rcases snoc_get e2 with e2 | ⟨_, rfl⟩
          · have := (List.getElem?_eq_some_iff.mp e2).1
            omega
          · rw [upd_ne nLt.symm, upd_same]
            rfl
      cases hl : acc.getLast? with
      | none =>
        have ea : acc = [] := List.getLast?_eq_none_iff.mp hl
        subst ea
        have er : rstep [] b = [(b, 1)] := rfl
        rw [er]
        refine ⟨_, rfl, iteF ?_⟩
        refine iteF ?_
        refine ⟨_, rfl, .inl ⟨rfl, _, SqL.of hL3⟩, _, rfl, by show 2 ≤ sizeLine; decide, fun t ht => ?_⟩
        have nLt : L ≠ t := ne_of_none hL3 ht
        refine ⟨L, _, .ref t, rfl, rfl, by rw [upd_ne nLt]; exact hL3, by rw [List.length_map, hts]; exact small1000 (by simp), ?_⟩
        refine ⟨_, _, rfl, fun b' o e' => ?_, happ _ t (fun _ _ z => z) ht⟩
        rw [upd_ne (ne_of_none e' hL), upd_ne (ne_of_none (s03 _ _ e') ht)]
        exact s03 _ _ e'
      | some r =>
        obtain ⟨k', n⟩ := r
        obtain ⟨acc', ea⟩ := List.getLast?_eq_some_iff.mp hl
        subst ea
        obtain ⟨ts', t0, ets, hl'⟩ := snoc_of (l := ts) (m := acc'.length) (by rw [hts]; simp)
        subst ets
        have hL4 : upd H2 e (.lst []) L = some (.lst (ts'.map V.ref ++ [V.ref t0])) := by rw [hL3, List.map_append]; rfl
        have ht0 := h3 acc'.length t0 (k', n) (by rw [← hl']; simp) (by simp)
        refine ⟨_, rfl, ?_⟩
        rw [show (!PyData.eqv (secsD (acc' ++ [(k', n)])) (.list [])) = true by cases acc' <;> rfl]
        refine iteT ?_
        refine ⟨_, rfl, _, rfl, L, _, _, .ref t0, rfl, rfl, SqL.of hL4, atI_last _ _, t0, _, _, _, rfl, rfl, SqT.of ht0, rfl, _, rfl, rfl, _, rfl, ?_⟩
        rw [kindS_inj]
        by_cases hk : k' = b
        · rw [decide_eq_true hk]
          refine iteT ?_
          have er : rstep (acc' ++ [(k', n)]) b = acc' ++ [(k', n + 1)] := by
            unfold rstep
            rw [hl]
            simp [hk]
          rw [er]
          refine ⟨_, rfl, _, rfl, _, rfl, L, _, _, .ref t0, rfl, rfl, SqL.of hL4, atI_last _ _, t0, _, _, _, rfl, rfl, SqT.of ht0, rfl, _, _, rfl, rfl, by show 2 ≤ sizeLine; decide, fun t ht => ?_⟩
          have nLt : L ≠ t := ne_of_none hL3 ht
          refine ⟨_, rfl, _, rfl, L, _, _, ts'.length, rfl, rfl, by rw [upd_ne nLt]; exact hL4, ixN_last (by simp), ?_⟩
          rw [set_last _ _ _ (by simp)]
          refine ⟨_, _, rfl, fun b' o e' => ?_, ts' ++ [t], by rw [upd_same, List.map_append]; rfl, by simp [hl'], fun i a s e1 e2 => ?_⟩
          · rw [upd_ne (ne_of_none e' hL), upd_ne (ne_of_none (s03 _ _ e') ht)]
            exact s03 _ _ e'
          · rcases snoc_get e1 with e1 | ⟨hi2, rfl⟩
            · have hlt := (List.getElem?_eq_some_iff.mp e1).1
              rw [List.getElem?_append_left (by rw [← hl']; exact hlt)] at e2
              have q := h3 i a s (by rw [List.getElem?_append_left hlt]; exact e1) (by rw [List.getElem?_append_left (by rw [← hl']; exact hlt)]; exact e2)
              rw [upd_ne (ne_of q hL3 (by intro z; cases z)), upd_ne (ne_of_none q ht)]
              exact q
            · rcases snoc_get e2 with e2 | ⟨_, rfl⟩
              · have := (List.getElem?_eq_some_iff.mp e2).1
                omega
              · rw [upd_ne nLt.symm, upd_same, ← hk]
                rfl
        · rw [decide_eq_false hk]
          refine iteF ?_
          have er : rstep (acc' ++ [(k', n)]) b = acc' ++ [(k', n)] ++ [(b, 1)] := by
            unfold rstep
            rw [hl]
            simp [hk]
          rw [er]
          refine ⟨_, rfl, .inl ⟨rfl, _, SqL.of hL3⟩, _, rfl, by show 2 ≤ sizeLine; decide, fun t ht => ?_⟩
          have nLt : L ≠ t := ne_of_none hL3 ht
          refine ⟨L, _, .ref t, rfl, rfl, by rw [upd_ne nLt]; exact hL3, by rw [List.length_map, hts]; exact small1000 (by omega), ?_⟩
          refine ⟨_, _, rfl, fun b' o e' => ?_, happ _ t (fun _ _ z => z) ht⟩
          rw [upd_ne (ne_of_none e' hL), upd_ne (ne_of_none (s03 _ _ e') ht)]
          exact s03 _ _ e'
    · rintro σ H1 ⟨v2, v3, rfl, s1, I⟩
      rw [hsz, List.take_length] at I
      exact ⟨_, rfl, k H1 L s1 hL I⟩
end
end Sl

set_option Elab.async false
set_option linter.all false
set_option maxRecDepth 100000
set_option maxHeartbeats 1000000
namespace Sl
open PySem PySem.Spec L2 OwnR LamX
/-! ### a list of new tuples -/
def TupsAt (H : Hp) (a : Addr) (vss : List (List V)) : Prop := ∃ ts : List Addr, H a = some (.lst (ts.map V.ref)) ∧ ts.length = vss.length ∧ ∀ (i : Nat) (t : Addr) (v : List V), ts[i]? = some t → vss[i]? = some v → H t = some (.tup v)
theorem tups_push {H : Hp} {a : Addr} {ts : List Addr} {vss : List (List V)} (h1 : H a = some (.lst (ts.map V.ref))) (h2 : ts.length = vss.length) (h3 : ∀ (i : Nat) (t : Addr) (v : List V), ts[i]? = some t → vss[i]? = some v → H t = some (.tup v)) {t : Addr} (ht : H t = none) (v : List V) :
    TupsAt (upd (upd H t (.tup v)) a (.lst (ts.map V.ref ++ [.ref t]))) a (vss ++ [v]) := by
  have nat : a ≠ t := ne_of_none h1 ht
  refine ⟨ts ++ [t], by rw [upd_same, List.map_append]; rfl, by rw [List.length_append, List.length_append, h2]; rfl, fun i b s e1 e2 => ?_⟩
  rcases snoc_get e1 with e1 | ⟨hi2, rfl⟩
  · have hlt := (List.getElem?_eq_some_iff.mp e1).1
    rw [List.getElem?_append_left (by rw [← h2]; exact hlt)] at e2
    have q := h3 i b s e1 e2
    rw [upd_ne (ne_of q h1 (by intro z; cases z)), upd_ne (ne_of_none q ht)]
    exact q
  · rcases snoc_get e2 with e2 | ⟨_, rfl⟩
    · have := (List.getElem?_eq_some_iff.mp e2).1
      omega
    · rw [upd_ne nat.symm, upd_same]
theorem TupsAt.keep {H H' : Hp} {r a : Addr} {vss : List (List V)} {xs : List V} (h : TupsAt H a vss) (k : KeepB r H H') (n : a ≠ r) (hr : H r = some (.lst xs)) : TupsAt H' a vss := by
  obtain ⟨ts, h1, h2, h3⟩ := h
  exact ⟨ts, k _ _ h1 n, h2, fun i t v e1 e2 => k _ _ (h3 i t v e1 e2) (ne_of (h3 i t v e1 e2) hr (by intro z; cases z))⟩
theorem TupsAt.same {H H' : Hp} {a : Addr} {vss : List (List V)} (h : TupsAt H a vss) (k : Same H H') : TupsAt H' a vss := by
  obtain ⟨ts, h1, h2, h3⟩ := h
  exact ⟨ts, k _ _ h1, h2, fun i t v e1 e2 => k _ _ (h3 i t v e1 e2)⟩
theorem tups_nil {H : Hp} {a : Addr} (h : H a = some (.lst [])) : TupsAt H a [] := ⟨[], h, rfl, fun i t v e => by simp at e⟩
/-! ### random cars -/
def carName (k : Nat) : Str := ⟨#[97 + k]⟩
structure DrawnC (j : Nat) (c : Car) : Prop where
  nm : c.name = carName j
  s0 : 0 ≤ c.start
  s1 : c.start ≤ 60
  p0 : 1 ≤ c.pace
  p1 : c.pace ≤ 9
theorem carName_inj {i j : Nat} (h : carName i = carName j) : i = j := by
  have h1 : (carName i).cps.toList = (carName j).cps.toList := by rw [h]
  have h2 : [97 + i] = [97 + j] := h1
  have := List.cons.inj h2
  omega
theorem drawn_ok {cars : List Car} (hl : cars.length ≤ 10) (h : ∀ j c, cars[j]? = some c → DrawnC j c) : CarsOk cars := by
  have hlt : ∀ {j : Nat} {c : Car}, cars[j]? = some c → j < 10 := fun e => Nat.lt_of_lt_of_le (List.getElem?_eq_some_iff.mp e).1 hl
  refine ⟨fun c hc => ?_, ?_, hl⟩
  · obtain ⟨j, hj⟩ := List.mem_iff_getElem?.mp hc
    have d := h j c hj
    have hj10 := hlt hj
    refine ⟨?_, d.s0, by have := d.s1; omega, d.p0, by have := d.p1; omega⟩
    rw [d.nm]
    refine ⟨Nat.le_refl 1, by show 1 ≤ 8; decide, fun x hx => ?_⟩
    have hx : x ∈ [97 + j] := hx
    rw [List.mem_singleton.mp hx]
    omega
  · have : cars.map (·.name) = (List.range cars.length).map carName := by
      apply List.ext_getElem?
      intro i
      rw [List.getElem?_map, List.getElem?_map]
      by_cases hi : i < cars.length
      · have e := List.getElem?_eq_getElem hi
        rw [e, List.getElem?_range hi]
        exact congrArg some (h i _ e).nm
      · rw [List.getElem?_eq_none (by omega), List.getElem?_eq_none (by simp; omega)]
        rfl
    rw [this]
    have hn : (List.range cars.length).Nodup := List.nodup_range
    exact List.Pairwise.map _ (fun a b (h : a ≠ b) z => h (carName_inj z)) hn
theorem drawn_z {cars : List Car} (hl : cars.length ≤ 10) (h : ∀ j c, cars[j]? = some c → DrawnC j c) : ∀ c ∈ cars, c.name ≠ "z" := fun c hc z => by
  obtain ⟨j, hj⟩ := List.mem_iff_getElem?.mp hc
  have hlt := (List.getElem?_eq_some_iff.mp hj).1
  have e := (h j c hj).nm
  rw [z] at e
  have h1 : ("z" : Str).cps.toList = (carName j).cps.toList := by rw [e]
  have h2 : [122] = [97 + j] := h1
  have := List.cons.inj h2
  omega
section
variable {P : Program} {w : World} {K : PySem.W.Frag} {mg : Str → Option Value} {base : Heap}
def spCars (K : PySem.W.Frag) : Sp := fun vs H Q _ => ∃ (r sc : Addr) (ns : List Int) (m : Nat), vs = [.ref r, .int (m : Nat)] ∧ m ≤ 10 ∧ RowAt K H r sc ns ∧
  ∀ H' a cars, KeepB r H H' → RowAt K H' r sc ns → CarsAt H' a cars → CarsOk cars → cars.length ≤ m → (∀ c ∈ cars, c.name ≠ "z") → Q (.ref a) H'
def nCars : List Str := ["_law_row", "_law_most", "_law_size", "_law_far", "_law_found", "_law_k"]
theorem scCars : FnScope nCars ["_law_row", "_law_most"] (defScope sCars) := ⟨rfl, rfl, rfl, by decide +kernel, rfl, by decide +kernel, by decide +kernel⟩
theorem aj_at : ∀ k : Nat, k < 10 → atI (("abcdefghij" : Str).cps.toList) ((k : Nat) : Int) = some (97 + k) := by decide +kernel
theorem ok_cars {f fT : Addr} {fd dT : FuncData} (F : Fun K "_law_cars" "_law_cars" sCars f fd) (M : Mg mg) (BT : Fb K mg "_law_taken" sTaken ["_law_row", "_law_many"] fT dT)
    (GT : FnOk P w K mg base CX0 1 fT dT ["_law_row", "_law_many"] (spTaken K)) : FnOk P w K mg base CX0 2 f fd ["_law_row", "_law_most"] (spCars K) := by
  refine F.ok scCars (fun vs H Q E h => ?_) (fun cdv A outer s H vs Q E hr h => ?_)
  · obtain ⟨r, sc, ns, m, rfl, _⟩ := h
    rfl
  · obtain ⟨r, sc, ns, m, rfl, h10, R0, k⟩ := h
    have nd := scCars.nd
    refine ⟨_, pss_cons (ps_par (i := 2) (j := 3) rfl nd rfl rfl (by decide) rfl rfl (pa_cons (pe_call GT hr (by rfl) BT.at_ BT.fn.kp BT.bd .nil pass0 (pa_cons (pv 0) (pa_cons (pe_op op_add (pv 1) pe_int) pa_nil)))
        (pa_cons (pe_ix ix_list (pe_lst (pa_cons pe_int (pa_cons pe_int (pa_cons pe_int pa_nil)))) (pe_call GT hr (by rfl) BT.at_ BT.fn.kp BT.bd .nil pass0 (pa_cons (pv 0) (pa_cons pe_int pa_nil))) (fun _ _ => rfl)) pa_nil)) (by rfl))
      (pss_cons (ps_set (i := 4) nd rfl (.inl rfl) (pe_lst pa_nil))
      (pss_cons (ps_for PassesOwn.never rfl (pi_range1 (by rfl) M.range (pa_cons (pv 2) pa_nil)) (pg_name (i := 5) nd rfl (.inl rfl))
        (pss_one (ps_expr (pe_bm PySem.F.plainAttrs_list PySem.F.slot_list_append PySem.F.type_list_append mt_append (pv 4) (pa_cons (pe_tup (pa_cons (pe_ix ix_str pe_str (pv 5) (fun _ _ => rfl))
          (pa_cons (pe_call GT hr (by rfl) BT.at_ BT.fn.kp BT.bd .nil pass0 (pa_cons (pv 0) (pa_cons (pv 3) pa_nil)))
          (pa_cons (pe_op op_add pe_int (pe_call GT hr (by rfl) BT.at_ BT.fn.kp BT.bd .nil pass0 (pa_cons (pv 0) (pa_cons (pe_ix ix_list (pe_lst (pa_cons pe_int (pa_cons pe_int pa_nil))) (pe_call GT hr (by rfl) BT.at_ BT.fn.kp BT.bd .nil pass0 (pa_cons (pv 0) (pa_cons pe_int pa_nil))) (fun _ _ => rfl)) pa_nil)))) pa_nil)))) pa_nil)))))
      (pss_one (ps_ret (pe_callTy call_tuple_of (by rfl) M.tuple boot_tTuple (pa_cons (pv 4) pa_nil)))))), ?_⟩
    refine ⟨_, rfl, _, rfl, _, _, rfl, rfl, r, sc, ns, m + 1, rfl, by omega, by omega, R0, fun H1 size k1 R1 hsize => ?_⟩
    refine ⟨by show 3 ≤ sizeLine; decide, fun l hl => ?_⟩
    have s2 : Same H1 (upd H1 l (.lst [.int 3, .int 20, .int 60])) := fun b o e => by rw [upd_ne (ne_of_none e hl)]; exact e
    have R2 := R1.same s2
    refine ⟨_, rfl, r, sc, ns, 3, rfl, by omega, by omega, R2, fun H3 q k3 R3 hq => ?_⟩
    have nlr : l ≠ r := fun z => by
      obtain ⟨a, b', c, h⟩ := R1.at_
      rw [z, h] at hl
      cases hl
    have hl3 : H3 l = some (.lst [.int 3, .int 20, .int 60]) := k3 _ _ upd_same nlr
    obtain ⟨far, hf1, hf60, hat⟩ : ∃ m2 : Nat, 1 ≤ m2 ∧ m2 ≤ 60 ∧ atI [V.int 3, V.int 20, V.int 60] ((q : Nat) : Int) = some (V.int ((m2 : Nat) : Int)) := by
      have : q = 0 ∨ q = 1 ∨ q = 2 := by omega
      rcases this with z | z | z
      · exact ⟨3, by decide, by decide, by rw [z]; rfl⟩
      · exact ⟨20, by decide, by decide, by rw [z]; rfl⟩
      · exact ⟨60, by decide, by decide, by rw [z]; rfl⟩
    refine ⟨l, _, _, _, rfl, rfl, SqL.of hl3, hat, _, _, rfl, ?_⟩
    have k03 : KeepB r H H3 := k1.trans ((KeepB.of s2).trans k3)
    refine ⟨Nat.zero_le _, fun L hL => ?_⟩
    have k04 : KeepB r H (upd H3 L (.lst [])) := k03.trans (KeepB.of fun b o e => by rw [upd_ne (ne_of_none e hL)]; exact e)
    have R4 : RowAt K (upd H3 L (.lst [])) r sc ns := R3.same fun b o e => by rw [upd_ne (ne_of_none e hL)]; exact e
    have nLr : L ≠ r := fun z => by
      obtain ⟨a, b', c, h⟩ := R3.at_
      rw [z, h] at hL
      cases hL
    refine ⟨_, rfl, _, rfl, by omega, by omega, ?_⟩
    rw [Int.toNat_natCast]
    have hLH : H L = none := by
      cases e : H L with
      | none => rfl
      | some o =>
        rw [k03 _ _ e nLr] at hL
        cases hL
    refine for_it walk_range (fun i σ H2 => ∃ (cars : List Car) (v5 : Option V), σ = [some (.ref r), some (.int ((m : Nat) : Int)), some (.int ((size : Nat) : Int)), some (.int ((far : Nat) : Int)), some (.ref L), v5] ∧ KeepB r H H2 ∧ RowAt K H2 r sc ns ∧ TupsAt H2 L (cars.map Car.vs) ∧ cars.length = i ∧ ∀ j c, cars[j]? = some c → DrawnC j c)
      ⟨[], none, rfl, k04, R4, tups_nil upd_same, rfl, fun j c e => by simp at e⟩ (fun _ _ _ _ _ => True.intro) ?_ ?_
    · rintro i x σ H2 H5 hi ⟨cars, v5, rfl, k2, R5, T5, hlen, hd⟩ ⟨e, ex⟩
      have ex2 : x = V.int ((i : Nat) : Int) := by
        rw [ex]
        show V.int (0 + ((i : Nat) : Int)) = _
        rw [Int.zero_add]
      clear ex
      subst e ex2
      have hi10 : i < 10 := by omega
      obtain ⟨ts, t1, t2, t3⟩ := id T5
      refine ⟨_, rfl, .inl ⟨rfl, _, SqL.of t1⟩, _, rfl, ("abcdefghij" : Str), _, 97 + i, rfl, rfl, by decide, aj_at i hi10, ?_⟩
      refine ⟨_, rfl, _, rfl, r, sc, ns, far, rfl, hf1, by omega, R5, fun H6 q1 k6 R6 hq1 => ?_⟩
      have xr6 : ∃ xs, H5 r = some (.lst xs) := let ⟨a, b, c, h⟩ := R5.at_; ⟨_, h⟩
      obtain ⟨xs5, hx5⟩ := xr6
      have T6 := T5.keep k6 nLr hx5
      refine ⟨_, rfl, by show 2 ≤ sizeLine; decide, fun l2 hl2 => ?_⟩
      have s7 : Same H6 (upd H6 l2 (.lst [.int 4, .int 9])) := fun b o e => by rw [upd_ne (ne_of_none e hl2)]; exact e
      have R7 := R6.same s7
      have T7 := T6.same s7
      refine ⟨_, rfl, r, sc, ns, 2, rfl, by omega, by omega, R7, fun H8 q2 k8 R8 hq2 => ?_⟩
      have nl2r : l2 ≠ r := fun z => by
        obtain ⟨a, b', c, h⟩ := R6.at_
        rw [z, h] at hl2
        cases hl2
      have hl8 : H8 l2 = some (.lst [.int 4, .int 9]) := k8 _ _ upd_same nl2r
      obtain ⟨xs7, hx7⟩ : ∃ xs, (upd H6 l2 (.lst [.int 4, .int 9])) r = some (.lst xs) := let ⟨a, b, c, h⟩ := R7.at_; ⟨_, h⟩
      have T8 := T7.keep k8 nLr hx7
      obtain ⟨m2, hm2, hm9, hat2⟩ : ∃ m2 : Nat, 1 ≤ m2 ∧ m2 ≤ 9 ∧ atI [V.int 4, V.int 9] ((q2 : Nat) : Int) = some (V.int ((m2 : Nat) : Int)) := by
        have : q2 = 0 ∨ q2 = 1 := by omega
        rcases this with z | z
        · exact ⟨4, by decide, by decide, by rw [z]; rfl⟩
        · exact ⟨9, by decide, by decide, by rw [z]; rfl⟩
      refine ⟨l2, _, _, _, rfl, rfl, SqL.of hl8, hat2, r, sc, ns, m2, rfl, hm2, by omega, R8, fun H9 q3 k9 R9 hq3 => ?_⟩
      obtain ⟨xs8, hx8⟩ : ∃ xs, H8 r = some (.lst xs) := let ⟨a, b, c, h⟩ := R8.at_; ⟨_, h⟩
      have T9 := T8.keep k9 nLr hx8
      obtain ⟨ts9, z1, z2, z3⟩ := T9
      refine ⟨_, _, rfl, rfl, by show 3 ≤ sizeLine; decide, fun t ht => ?_⟩
      have nLt : L ≠ t := ne_of_none z1 ht
      refine ⟨L, _, .ref t, rfl, rfl, by rw [upd_ne nLt]; exact z1, by rw [List.length_map, z2, List.length_map, hlen]; exact small1000 (by omega), ?_⟩
      have k29 : KeepB r H H9 := k2.trans (k6.trans ((KeepB.of s7).trans (k8.trans k9)))
      have hup : Same H9 (upd H9 t (.tup [.str (carName i), .int ((q1 : Nat) : Int), .int (1 + ((q3 : Nat) : Int))])) := fun b o e => by rw [upd_ne (ne_of_none e ht)]; exact e
      have kfin : KeepB r H (upd (upd H9 t (.tup [.str (carName i), .int ((q1 : Nat) : Int), .int (1 + ((q3 : Nat) : Int))])) L (.lst (ts9.map V.ref ++ [.ref t]))) := fun b o e n => by
        rw [upd_ne (ne_of_none e hLH)]
        exact hup _ _ (k29 _ _ e n)
      refine ⟨cars ++ [⟨carName i, ((q1 : Nat) : Int), 1 + ((q3 : Nat) : Int)⟩], _, rfl, kfin, ⟨?_, fun H' k' => R0.scr H' (kfin.trans k')⟩, ?_, by rw [List.length_append, hlen]; rfl, fun j c e => ?_⟩
      · obtain ⟨a, b, c, h⟩ := R9.at_
        exact ⟨a, b, c, by rw [upd_ne nLr.symm]; exact hup _ _ h⟩
      · have := tups_push z1 z2 z3 ht [.str (carName i), .int ((q1 : Nat) : Int), .int (1 + ((q3 : Nat) : Int))]
        rw [List.map_append]
        exact this
      · rcases snoc_get e with e | ⟨hj, rfl⟩
        · exact hd j c e
        · rw [hlen] at hj
          subst hj
          exact ⟨rfl, by show (0 : Int) ≤ ((q1 : Nat) : Int); omega, by show ((q1 : Nat) : Int) ≤ 60; omega, by show (1 : Int) ≤ 1 + ((q3 : Nat) : Int); omega, by show 1 + ((q3 : Nat) : Int) ≤ 9; omega⟩
    · rintro σ H2 ⟨cars, v5, rfl, k2, R5, ⟨ts, t1, t2, t3⟩, hlen, hd⟩
      refine ⟨_, rfl, L, _, rfl, .inl ⟨SqL.of t1, fun t ht => ?_⟩⟩
      have s3 : Same H2 (upd H2 t (.tup (ts.map V.ref))) := fun b o e => by rw [upd_ne (ne_of_none e ht)]; exact e
      refine k _ t cars (k2.trans (KeepB.of s3)) (R5.same s3) ⟨ts, upd_same, by rw [t2, List.length_map], fun i a c e1 e2 => s3 _ _ (t3 i a c.vs e1 (by rw [List.getElem?_map, e2]; rfl))⟩ (drawn_ok (by omega) hd) (by omega) (drawn_z (by omega) hd)
end
end Sl

set_option Elab.async false
set_option linter.all false
set_option maxRecDepth 100000
set_option maxHeartbeats 1000000
namespace Sl
open PySem PySem.Spec L2 OwnR LamX
/-- all that is no list stays, and what r is not -/
theorem KeepB.notlst {r : Addr} {H H' : Hp} {xs : List V} (k : KeepB r H H') (hr : H r = some (.lst xs)) : ∀ b o, H b = some o → (∀ ys, o ≠ .lst ys) → H' b = some o := fun b o e n => k b o e (ne_of e hr (n _))
theorem RoadAt.keepB {CR : Addr} {H H' : Hp} {p r : Addr} {secs : List Sec} {xs : List V} (h : RoadAt CR H p secs) (k : KeepB r H H') (hr : H r = some (.lst xs)) : RoadAt CR H' p secs := by
  obtain ⟨dx, t, u, h1, ⟨ts, a1, a2, a3⟩, h3⟩ := h
  have nl := k.notlst hr
  exact ⟨dx, t, u, nl _ _ h1 fun _ z => (nomatch z), ⟨ts, nl _ _ a1 fun _ z => (nomatch z), a2, fun i t s e1 e2 => nl _ _ (a3 i t s e1 e2) fun _ z => nomatch z⟩, h3⟩
theorem RunsAt.keepB {H H' : Hp} {p r : Addr} {secs : List Sec} {xs : List V} (h : RunsAt H p secs) (k : KeepB r H H') (n : p ≠ r) (hr : H r = some (.lst xs)) : RunsAt H' p secs := by
  obtain ⟨ts, a1, a2, a3⟩ := h
  have nl := k.notlst hr
  exact ⟨ts, k _ _ a1 n, a2, fun i t s e1 e2 => nl _ _ (a3 i t s e1 e2) fun _ z => nomatch z⟩
section
variable {P : Program} {w : World} {K : PySem.W.Frag} {mg : Str → Option Value} {base : Heap}
def spDrawn (K : PySem.W.Frag) (CR : Addr) : Sp := fun vs H Q _ => ∃ (r sc : Addr) (ns : List Int), ∃ (m q : Nat), vs = [.ref r, .int (m : Nat), .int (q : Nat)] ∧ 1 ≤ m ∧ m ≤ 7 ∧ q ≤ 9 ∧ RowAt K H r sc ns ∧
  ∀ H' t p l a bs cars, KeepB r H H' → RowAt K H' r sc ns → H' t = some (.tup [.ref p, .ref l, .ref a]) → RoadAt CR H' p (runsOf bs) → RunsAt H' l (runsOf bs) → l ≠ r → CarsAt H' a cars → SecsOk (runsOf bs) → CarsOk cars → (runsOf bs).length ≤ m → cars.length ≤ q → (∀ c ∈ cars, c.name ≠ "z") → Q (.ref t) H'
def nDrawn : List Str := ["_law_row", "_law_sections_here", "_law_cars_here", "_law_units_here"]
theorem scDrawn : FnScope nDrawn ["_law_row", "_law_sections_here", "_law_cars_here"] (defScope sDrawn) := ⟨rfl, rfl, rfl, by decide +kernel, rfl, by decide +kernel, by decide +kernel⟩
theorem ok_drawn {f fU fS fC fO CR lp kp pO : Addr} {fd dU dS dC dO : FuncData} {mc : Value} (F : Fun K "_law_drawn" "_law_drawn" sDrawn f fd) (M : Mg mg) (RR : RoadT K w mg CR lp kp)
    (BU : Fb K mg "_law_units" sUnits ["_law_row", "_law_most"] fU dU) (GU : FnOk P w K mg base CX0 2 fU dU ["_law_row", "_law_most"] (spUnits K))
    (BS : Fb K mg "_law_sections" sSections ["_law_units_here"] fS dS) (GS : FnOk P w K mg base CX0 1 fS dS ["_law_units_here"] spSections)
    (BC : Fb K mg "_law_cars" sCars ["_law_row", "_law_most"] fC dC) (GC : FnOk P w K mg base CX0 2 fC dC ["_law_row", "_law_most"] (spCars K))
    (cr : ClX.CRead K CR mc) (cm : ClX.CMet K CR mc "of_units" pO fO) (bO : Binds K dO ["cls", "units"] []) (GO : FnOk P w K mg base CX0 5 fO dO ["cls", "units"] (spOfUnits CR)) :
    FnOk P w K mg base CX0 6 f fd ["_law_row", "_law_sections_here", "_law_cars_here"] (spDrawn K CR) := by
  refine F.ok scDrawn (fun vs H Q E h => ?_) (fun cdv A outer s H vs Q E hr h => ?_)
  · obtain ⟨r, sc, ns, m, q, rfl, _⟩ := h
    rfl
  · obtain ⟨r, sc, ns, m, q, rfl, m1, m7, q9, R0, k⟩ := h
    have nd := scDrawn.nd
    refine ⟨_, pss_cons (ps_set (i := 3) nd rfl (.inl rfl) (pe_call GU (hr.mono (by decide)) (by rfl) BU.at_ BU.fn.kp BU.bd .nil pass0 (pa_cons (pv 0) (pa_cons (pv 1) pa_nil))))
      (pss_one (ps_ret (pe_tup (pa_cons (ClX.pe_cmeth (pe_glob (v := .ref CR) (by rfl) RR.mgC rfl) cr cm (GO.raw bO .nil) hr pass0 (pa_cons (pv 3) pa_nil))
        (pa_cons (pe_call GS (hr.mono (by decide)) (by rfl) BS.at_ BS.fn.kp BS.bd .nil pass0 (pa_cons (pv 3) pa_nil))
        (pa_cons (pe_call GC (hr.mono (by decide)) (by rfl) BC.at_ BC.fn.kp BC.bd .nil pass0 (pa_cons (pv 0) (pa_cons (pv 2) pa_nil))) pa_nil)))))), ?_⟩
    refine ⟨_, rfl, _, rfl, r, sc, ns, m, rfl, m1, by omega, R0, fun H1 u bs k1 R1 hu b1 b6 hb => ?_⟩
    have SO : SecsOk (runsOf bs) := secsOk_runs (m := m) b1 (by omega) (by omega)
    refine ⟨rfl, _, rfl, u, bs, rfl, hu, by omega, SO, fun H2 p s2 hp A2 => ?_⟩
    refine ⟨_, rfl, u, bs, rfl, hu, by omega, fun H3 l s3 hl A3 => ?_⟩
    refine ⟨_, rfl, _, rfl, r, sc, ns, q, rfl, by omega, (R1.same s2).same s3, fun H4 a cars k4 R4 A4 CO hc hz => ?_⟩
    refine ⟨by show 3 ≤ sizeLine; decide, fun t ht => ?_⟩
    obtain ⟨xs, hx⟩ : ∃ xs, H3 r = some (.lst xs) := let ⟨a, b, c, h⟩ := ((R1.same s2).same s3).at_; ⟨_, h⟩
    have nlr : l ≠ r := fun z => by
      obtain ⟨a, b, c, h⟩ := (R1.same s2).at_
      rw [z, h] at hl
      cases hl
    have st : Same H4 (upd H4 t (.tup [.ref p, .ref l, .ref a])) := fun b o e => by rw [upd_ne (ne_of_none e ht)]; exact e
    exact k _ t p l a bs cars (k1.trans ((KeepB.of (s2.trans s3)).trans (k4.trans (KeepB.of st)))) (R4.same st) upd_same (((A2.ext (ExtN.same s3)).keepB k4 hx).ext (ExtN.same st)) ((A3.keepB k4 nlr hx).ext (ExtN.same st)) nlr (A4.ext (ExtN.same st)) SO CO (by omega) hc hz
end
end Sl

set_option Elab.async false
set_option linter.all false
set_option maxRecDepth 100000
set_option maxHeartbeats 1000000
namespace Sl
open PySem PySem.Spec L2 OwnR LamX
/-! ### the law's own overtakings -/
theorem posL_get {n : Str} {l : List Str} (nd : l.Nodup) {i : Nat} (h : l[i]? = some n) : posL n l = i := by
  have hm := List.mem_of_getElem? h
  exact nd_ix nd (posL_at hm) h
theorem drop_mem {l : List Str} (nd : l.Nodup) {o : Str} (ho : o ∈ l) (i : Nat) : decide (o ∈ l.drop (i + 1)) = decide (i < posL o l) := by
  rw [decide_eq_decide]
  constructor
  · intro h
    obtain ⟨j, hj⟩ := List.mem_iff_getElem?.mp h
    rw [List.getElem?_drop] at hj
    rw [posL_get nd hj]
    omega
  · intro h
    have e := posL_at ho
    refine List.mem_iff_getElem?.mpr ⟨posL o l - (i + 1), ?_⟩
    rw [List.getElem?_drop, show i + 1 + (posL o l - (i + 1)) = posL o l by omega]
    exact e
theorem ovSec_same {l : List Str} (nd : l.Nodup) (k : Nat) : ∀ i, ovSec l l k i = []
  | 0 => rfl
  | i + 1 => by
    rw [ovSec_succ, ovSec_same nd k i, List.nil_append]
    unfold ovMid
    cases hn : l[i]? with
    | none => rfl
    | some n =>
      show ovIn l k i n (l.take (posL n l)) = []
      rw [posL_get nd hn]
      unfold ovIn
      rw [List.map_eq_nil_iff, List.filter_eq_nil_iff]
      intro o ho
      obtain ⟨j, hj⟩ := List.mem_iff_getElem?.mp ho
      have hji : j < i := by
        have := (List.getElem?_eq_some_iff.mp hj).1
        rw [List.length_take] at this
        omega
      rw [List.getElem?_take_of_lt hji] at hj
      rw [drop_mem nd (List.mem_of_getElem? hj), posL_get nd hj]
      simp
      omega
def OrdsAt (H : Hp) (a : Addr) (secs : List Sec) (cars : List Car) : Prop := ∃ os : List Addr, H a = some (.lst (os.map V.ref)) ∧ os.length = secs.length + 1 ∧ ∀ (k : Nat) (d : Addr), os[k]? = some d → H d = some (.lst ((plcC secs cars k).ord.map V.str))
end Sl

set_option Elab.async false
set_option linter.all false
set_option maxRecDepth 100000
set_option maxHeartbeats 1000000
namespace Sl
open PySem PySem.Spec L2 OwnR LamX
/-! ### the law's own driver: rows of a section, wide or narrow -/
def wrow (wd : Bool) (fr : Str → Int) (acc : List (RowT Str)) (n : Str) : RowT Str := if wd then (n, fr n, none) else fnext fr acc n
def wrows (wd : Bool) (fr : Str → Int) (ord : List Str) : List (RowT Str) := ord.foldl (fun acc n => acc ++ [wrow wd fr acc n]) []
theorem wrow_name (wd : Bool) (fr : Str → Int) (acc : List (RowT Str)) (n : Str) : (wrow wd fr acc n).1 = n := by
  unfold wrow
  split
  · rfl
  · exact fnext_name fr acc n
theorem wrows_snoc (wd : Bool) (fr : Str → Int) (ord : List Str) (n : Str) : wrows wd fr (ord ++ [n]) = wrows wd fr ord ++ [wrow wd fr (wrows wd fr ord) n] := by
  unfold wrows
  rw [List.foldl_append]
  rfl
theorem wrows_narrow (fr : Str → Int) (ord : List Str) : wrows false fr ord = foll fr ord := rfl
theorem wrows_wide (fr : Str → Int) (ord : List Str) : wrows true fr ord = ord.map fun n => (n, fr n, none) := by
  have h : ∀ (l : List Str) (acc : List (RowT Str)), l.foldl (fun acc n => acc ++ [wrow true fr acc n]) acc = acc ++ l.map fun n => (n, fr n, none) := by
    intro l
    induction l with
    | nil => intro acc; simp
    | cons n r ih =>
      intro acc
      rw [List.foldl_cons, ih, List.map_cons, List.append_assoc]
      rfl
  have := h ord []
  simpa [wrows] using this
theorem wrows_names (wd : Bool) (fr : Str → Int) (ord : List Str) : (wrows wd fr ord).map (·.1) = ord := by
  have h : ∀ (l : List Str) (acc : List (RowT Str)), (l.foldl (fun acc n => acc ++ [wrow wd fr acc n]) acc).map (·.1) = acc.map (·.1) ++ l := by
    intro l
    induction l with
    | nil => intro acc; simp
    | cons n r ih =>
      intro acc
      rw [List.foldl_cons, ih, List.map_append, List.append_assoc]
      simp [wrow_name]
  have := h ord []
  simpa [wrows] using this
theorem wrows_tick (pace : Str → Int) (p : Pl Str) (s : Sec) (nd : p.ord.Nodup) {n : Str} (hn : n ∈ p.ord) : ∃ x, look (wrows s.1 (freeP pace p s.2) p.ord) n = some x ∧ x.1 = (stepP pace p s).tk n := by
  obtain ⟨x, hx⟩ := look_some (acc := wrows s.1 (freeP pace p s.2) p.ord) (n := n) (by rw [wrows_names]; exact hn)
  refine ⟨x, hx, ?_⟩
  unfold stepP
  cases hw : s.1 with
  | true =>
    rw [hw, wrows_wide] at hx
    obtain ⟨i, hi⟩ := List.mem_iff_getElem?.mp hn
    have := look_get (acc := p.ord.map fun n => (n, freeP pace p s.2 n, none)) (by rw [List.map_map]; exact (List.map_id p.ord).symm ▸ nd) (i := i) (r := (n, freeP pace p s.2 n, none)) (by rw [List.getElem?_map, hi]; rfl)
    rw [this] at hx
    cases hx
    rfl
  | false =>
    rw [hw, wrows_narrow] at hx
    show x.1 = tickOf (foll (freeP pace p s.2) p.ord) n
    unfold tickOf
    rw [hx]
    rfl
theorem wrows_lead (pace : Str → Int) (p : Pl Str) (s : Sec) (n : Str) : leadOf (wrows s.1 (freeP pace p s.2) p.ord) n = leadP pace p s n := by
  unfold leadP
  cases hw : s.1 with
  | true =>
    rw [wrows_wide]
    show leadOf _ n = none
    unfold leadOf look
    cases q : (p.ord.map fun n => ((n, freeP pace p s.2 n, none) : RowT Str)).find? (fun r => decide (r.1 = n)) with
    | none => rfl
    | some r =>
      have hr := List.mem_of_find?_eq_some q
      obtain ⟨m, _, rfl⟩ := List.mem_map.mp hr
      rfl
  | false => rfl
def gOf (b : Str → List Int) (acc : List (RowT Str)) (n : Str) : List Int := b n ++ (match look acc n with
  | some x => [x.1]
  | none => [])
theorem gOf_nil (b : Str → List Int) : gOf b [] = b := by
  funext n
  unfold gOf
  rw [look_nil]
  exact List.append_nil _
theorem gOf_snoc (b : Str → List Int) (acc : List (RowT Str)) (r : RowT Str) (h : r.1 ∉ acc.map (·.1)) : (fun n => if n = r.1 then gOf b acc r.1 ++ [r.2.1] else gOf b acc n) = gOf b (acc ++ [r]) := by
  funext n
  show (if n = r.1 then gOf b acc r.1 ++ [r.2.1] else gOf b acc n) = _
  unfold gOf
  rw [look_snoc acc r n h]
  by_cases e : n = r.1
  · rw [if_pos e, if_pos e, look_none h, e]
    simp
  · rw [if_neg e, if_neg e]
theorem gOf_in {b : Str → List Int} {acc : List (RowT Str)} {n : Str} {x : Int × Option Str} (h : look acc n = some x) : gOf b acc n = b n ++ [x.1] := by
  unfold gOf
  rw [h]
def tkl (secs : List Sec) (cars : List Car) (i : Nat) (n : Str) : List Int := (List.range (i + 1)).map fun k => (plcC secs cars k).tk n
theorem tkl_succ (secs : List Sec) (cars : List Car) (i : Nat) (n : Str) : tkl secs cars (i + 1) n = tkl secs cars i n ++ [(plcC secs cars (i + 1)).tk n] := by
  unfold tkl
  rw [List.range_succ, List.map_append]
  rfl
theorem tkl_last (secs : List Sec) (cars : List Car) (i : Nat) (n : Str) : ∃ l, tkl secs cars i n = l ++ [(plcC secs cars i).tk n] := by
  unfold tkl
  exact ⟨(List.range i).map fun k => (plcC secs cars k).tk n, by rw [List.range_succ, List.map_append]; rfl⟩
/-- lists of numbers are no lists of names, none of references -/
theorem ints_str {l : List Int} {m : List Str} (h : l ≠ []) : (HO.lst (l.map V.int)) ≠ .lst (m.map V.str) := by
  intro z
  cases l with
  | nil => exact h rfl
  | cons a r =>
    cases m with
    | nil => cases z
    | cons b q => cases z
theorem ints_ref {l : List Int} {m : List Addr} (h : l ≠ []) : (HO.lst (l.map V.int)) ≠ .lst (m.map V.ref) := by
  intro z
  cases l with
  | nil => exact h rfl
  | cons a r =>
    cases m with
    | nil => cases z
    | cons b q => cases z
structure DrS (T : List (Addr × Str)) (H0 H : Hp) (secs : List Sec) (cars : List Car) (i : Nat) (g : Str → List Int) (TK PD OD LD : Addr) (ds os ls : List Addr) : Prop where
  ext : ExtN H0 H
  tabs : Tabs T H
  tk : ∃ kt, H TK = some (.dK kt) ∧ ∀ (q : Nat) (c : Car) (d : Addr), cars[q]? = some c → ds[q]? = some d → valV kt (Sum.inr c.name : Key) = some (.ref d)
  dl : ds.length = cars.length
  dv : ∀ (q : Nat) (c : Car) (d : Addr), cars[q]? = some c → ds[q]? = some d → H d = some (.lst ((g c.name).map V.int))
  gne : ∀ n, g n ≠ []
  dn : ds.Nodup
  dnew : ∀ d ∈ ds, New H0 d
  pd : ∃ kp, H PD = some (.dK kp) ∧ ∀ c ∈ cars, valV kp (Sum.inr c.name : Key) = some (.int c.pace)
  od : H OD = some (.lst (os.map V.ref))
  ol : os.length = i + 1
  ov : ∀ (k : Nat) (d : Addr), os[k]? = some d → H d = some (.lst ((plcC secs cars k).ord.map V.str))
  odn : New H0 OD
  ld : H LD = some (.lst (ls.map V.ref))
  ll : ls.length = i
  lv : ∀ (k : Nat) (d : Addr), ls[k]? = some d → ∃ kv, H d = some (.dK kv) ∧ ∀ n, valV kv (Sum.inr n : Key) = (ldrC secs cars k n).map V.str
  ldn : New H0 LD
  osl : ∀ d ∈ os, d ≠ LD
section
variable {T : List (Addr × Str)} {H0 H H' : Hp} {secs : List Sec} {cars : List Car} {i : Nat} {g : Str → List Int} {TK PD OD LD : Addr} {ds os ls : List Addr}
theorem DrS.step (D : DrS T H0 H secs cars i g TK PD OD LD ds os ls) (e : ExtN H H') (t : Tabs T H') : DrS T H0 H' secs cars i g TK PD OD LD ds os ls where
  ext := D.ext.trans e
  tabs := t
  tk := let ⟨kt, a, b⟩ := D.tk; ⟨kt, ExtN.dK e a, b⟩
  dl := D.dl
  dv := fun q c d h1 h2 => ExtN.lst e (D.dv q c d h1 h2)
  gne := D.gne
  dn := D.dn
  dnew := D.dnew
  pd := let ⟨kp, a, b⟩ := D.pd; ⟨kp, ExtN.dK e a, b⟩
  od := ExtN.lst e D.od
  ol := D.ol
  ov := fun k d h => ExtN.lst e (D.ov k d h)
  odn := D.odn
  ld := ExtN.lst e D.ld
  ll := D.ll
  lv := fun k d h => let ⟨kv, a, b⟩ := D.lv k d h; ⟨kv, ExtN.dK e a, b⟩
  ldn := D.ldn
  osl := D.osl
theorem DrS.congr (D : DrS T H0 H secs cars i g TK PD OD LD ds os ls) {g' : Str → List Int} (h : ∀ c ∈ cars, g c.name = g' c.name) (hn : ∀ n, g' n ≠ []) : DrS T H0 H secs cars i g' TK PD OD LD ds os ls :=
  { D with dv := fun q c d h1 h2 => by rw [← h c (List.mem_of_getElem? h1)]; exact D.dv q c d h1 h2, gne := hn }
/-- a tick is put behind a car's list -/
theorem DrS.tick (D : DrS T H0 H secs cars i g TK PD OD LD ds os ls) (nd : (names cars).Nodup) {q : Nat} {c : Car} {d : Addr} (hq : cars[q]? = some c) (hd : ds[q]? = some d) (x : Int) :
    DrS T H0 (upd H d (.lst ((g c.name).map V.int ++ [.int x]))) secs cars i (fun n => if n = c.name then g c.name ++ [x] else g n) TK PD OD LD ds os ls := by
  have hc := D.dv q c d hq hd
  have kl : ∀ b o, H b = some o → (∀ xs, o ≠ .lst xs) → upd H d (.lst ((g c.name).map V.int ++ [.int x])) b = some o := fun b o e n => by rw [upd_ne (ne_of e hc (n _))]; exact e
  have ks : ∀ b (m : List Str), H b = some (.lst (m.map V.str)) → upd H d (.lst ((g c.name).map V.int ++ [.int x])) b = some (.lst (m.map V.str)) := fun b m e => by rw [upd_ne (ne_of e hc (ints_str (D.gne _)).symm)]; exact e
  have kr : ∀ b (m : List Addr), H b = some (.lst (m.map V.ref)) → upd H d (.lst ((g c.name).map V.int ++ [.int x])) b = some (.lst (m.map V.ref)) := fun b m e => by rw [upd_ne (ne_of e hc (ints_ref (D.gne _)).symm)]; exact e
  have nw := D.dnew d (List.mem_of_getElem? hd)
  refine { D with ext := fun b o e n => ?_, tabs := ?_, tk := ?_, dv := ?_, gne := ?_, pd := ?_, od := kr _ _ D.od, ov := fun k b h => ks _ _ (D.ov k b h), ld := kr _ _ D.ld, lv := ?_ }
  · rw [upd_ne (nw b o e n)]
    exact D.ext b o e n
  · exact Tabs.keepL D.tabs kl
  · obtain ⟨kt, a, b⟩ := D.tk
    exact ⟨kt, kl _ _ a fun _ z => (nomatch z), b⟩
  · intro q' c' d' h1 h2
    by_cases e : d' = d
    · subst e
      have : q' = q := nd_ix D.dn h2 hd
      subst this
      rw [hq] at h1
      cases h1
      rw [upd_same]
      show _ = some (HO.lst ((if c.name = c.name then g c.name ++ [x] else g c.name).map V.int))
      rw [if_pos rfl, List.map_append]
      rfl
    · rw [upd_ne e]
      have hne : ¬ c'.name = c.name := fun z => by
        have a1 : (names cars)[q']? = some c.name := by unfold names; rw [List.getElem?_map, h1]; exact congrArg some z
        have a2 : (names cars)[q]? = some c.name := by unfold names; rw [List.getElem?_map, hq]; rfl
        have := nd_ix nd a1 a2
        subst this
        rw [hd] at h2
        exact e (Option.some.inj h2).symm
      show _ = some (HO.lst ((if c'.name = c.name then g c.name ++ [x] else g c'.name).map V.int))
      rw [if_neg hne]
      exact D.dv q' c' d' h1 h2
  · intro n
    show (if n = c.name then g c.name ++ [x] else g n) ≠ []
    split
    · simp
    · exact D.gne n
  · obtain ⟨kp, a, b⟩ := D.pd
    exact ⟨kp, kl _ _ a fun _ z => (nomatch z), b⟩
  · intro k b h
    obtain ⟨kv, a, e⟩ := D.lv k b h
    exact ⟨kv, kl _ _ a fun _ z => (nomatch z), e⟩
theorem DrS.tickKeep (D : DrS T H0 H secs cars i g TK PD OD LD ds os ls) {q : Nat} {c : Car} {d : Addr} (hq : cars[q]? = some c) (hd : ds[q]? = some d) (o' : HO) :
    (∀ b o, H b = some o → (∀ xs, o ≠ .lst xs) → upd H d o' b = some o) ∧ ∀ b (m : List Str), H b = some (.lst (m.map V.str)) → upd H d o' b = some (.lst (m.map V.str)) := by
  have hc := D.dv q c d hq hd
  exact ⟨fun b o e n => by rw [upd_ne (ne_of e hc (n _))]; exact e, fun b m e => by rw [upd_ne (ne_of e hc (ints_str (D.gne _)).symm)]; exact e⟩
/-- the section's order and leaders are put behind the lists -/
theorem DrS.put (D : DrS T H0 H secs cars i g TK PD OD LD ds os ls) {o' l' : Addr} {kv : List (Key × V)} (ho : H o' = some (.lst ((plcC secs cars (i + 1)).ord.map V.str))) (no : o' ≠ LD) (hl : H l' = some (.dK kv)) (hkv : ∀ n, valV kv (Sum.inr n : Key) = (ldrC secs cars i n).map V.str) :
    DrS T H0 (upd (upd H OD (.lst (os.map V.ref ++ [.ref o']))) LD (.lst (ls.map V.ref ++ [.ref l']))) secs cars (i + 1) g TK PD OD LD ds (os ++ [o']) (ls ++ [l']) := by
  have one : os ≠ [] := fun z => by have := D.ol; rw [z] at this; simp at this
  have refs_str : ∀ (m : List Str), HO.lst (m.map V.str) ≠ .lst (os.map V.ref) := fun m z => by
    cases os with
    | nil => exact one rfl
    | cons a r =>
      cases m with
      | nil => cases z
      | cons b q => cases z
  have nOL : OD ≠ LD := fun z => by
    have h1 := D.od
    have h2 := D.ld
    rw [z, h2] at h1
    have h3 : ls.map V.ref = os.map V.ref := by
      have := Option.some.inj h1
      injection this
    have := congrArg List.length h3
    rw [List.length_map, List.length_map, D.ol, D.ll] at this
    omega
  have kl : ∀ b o, H b = some o → (∀ xs, o ≠ .lst xs) → upd (upd H OD (.lst (os.map V.ref ++ [.ref o']))) LD (.lst (ls.map V.ref ++ [.ref l'])) b = some o := fun b o e n => by
    rw [upd_ne (ne_of e D.ld (n _)), upd_ne (ne_of e D.od (n _))]
    exact e
  have kd : ∀ (q : Nat) (c : Car) (d : Addr), cars[q]? = some c → ds[q]? = some d → upd (upd H OD (.lst (os.map V.ref ++ [.ref o']))) LD (.lst (ls.map V.ref ++ [.ref l'])) d = some (.lst ((g c.name).map V.int)) := fun q c d h1 h2 => by
    have e := D.dv q c d h1 h2
    rw [upd_ne (ne_of e D.ld (ints_ref (D.gne _))), upd_ne (ne_of e D.od (ints_ref (D.gne _)))]
    exact e
  refine { D with ext := fun b o e n => ?_, tabs := Tabs.keepL D.tabs kl, tk := ?_, dv := kd, pd := ?_, od := ?_, ol := by rw [List.length_append, D.ol]; rfl, ov := ?_, ld := ?_, ll := by rw [List.length_append, D.ll]; rfl, lv := ?_, osl := ?_ }
  · rw [upd_ne (D.ldn b o e n), upd_ne (D.odn b o e n)]
    exact D.ext b o e n
  · obtain ⟨kt, a, b⟩ := D.tk
    exact ⟨kt, kl _ _ a fun _ z => (nomatch z), b⟩
  · obtain ⟨kp, a, b⟩ := D.pd
    exact ⟨kp, kl _ _ a fun _ z => (nomatch z), b⟩
  · rw [upd_ne nOL, upd_same, List.map_append]
    rfl
  · intro k d h
    rcases snoc_get h with h | ⟨hk, rfl⟩
    · have e := D.ov k d h
      rw [upd_ne (D.osl d (List.mem_of_getElem? h)), upd_ne (ne_of e D.od (refs_str _))]
      exact e
    · rw [D.ol] at hk
      subst hk
      rw [upd_ne no, upd_ne (ne_of ho D.od (refs_str _))]
      exact ho
  · rw [upd_same, List.map_append]
    rfl
  · intro k d h
    rcases snoc_get h with h | ⟨hk, rfl⟩
    · obtain ⟨kv', a, e⟩ := D.lv k d h
      exact ⟨kv', kl _ _ a fun _ z => (nomatch z), e⟩
    · rw [D.ll] at hk
      subst hk
      exact ⟨kv, kl _ _ hl fun _ z => (nomatch z), hkv⟩
  · intro d hd
    rcases List.mem_append.mp hd with hd | hd
    · exact D.osl d hd
    · rw [List.mem_singleton.mp hd]
      exact no
end
end Sl

set_option Elab.async false
set_option linter.all false
set_option maxRecDepth 100000
set_option maxHeartbeats 1000000
namespace Sl
open PySem PySem.Spec L2 OwnR LamX
def nDriven : List Str := ["_law_sections_here", "_law_cars_here", "_law_order", "_law_car", "_law_ticks", "_law_paces", "_law_orders", "_law_leaders", "_law_name", "_law_start", "_law_pace", "_law_kind", "_law_length", "_law_free", "_law_led", "_law_ahead", "_law_leave"]
theorem scDriven : FnScope nDriven ["_law_sections_here", "_law_cars_here"] (defScope sDriven) := ⟨rfl, rfl, rfl, by decide +kernel, rfl, by decide +kernel, by decide +kernel⟩
def qDriven : Str := ("_law_driven" : Str) ++ (".<locals>." : Str) ++ ("<lambda>" : Str)
theorem DrS.nOL {T : List (Addr × Str)} {H0 H : Hp} {secs : List Sec} {cars : List Car} {i : Nat} {g : Str → List Int} {TK PD OD LD : Addr} {ds os ls : List Addr} (D : DrS T H0 H secs cars i g TK PD OD LD ds os ls) : OD ≠ LD := fun z => by
  have h1 := D.od
  have h2 := D.ld
  rw [z, h2] at h1
  have h3 : ls.map V.ref = os.map V.ref := by
    have := Option.some.inj h1
    injection this
  have := congrArg List.length h3
  rw [List.length_map, List.length_map, D.ol, D.ll] at this
  omega
theorem DrS.putStr {T : List (Addr × Str)} {H0 H : Hp} {secs : List Sec} {cars : List Car} {i : Nat} {g : Str → List Int} {TK PD OD LD : Addr} {ds os ls : List Addr} (D : DrS T H0 H secs cars i g TK PD OD LD ds os ls) {b : Addr} {m : List Str} (h : H b = some (.lst (m.map V.str))) (n : b ≠ LD) (x y : HO) :
    upd (upd H OD x) LD y b = some (.lst (m.map V.str)) := by
  have one : os ≠ [] := fun z => by have := D.ol; rw [z] at this; simp at this
  rw [upd_ne n, upd_ne (ne_of h D.od fun z => ?_)]
  · exact h
  · cases os with
    | nil => exact one rfl
    | cons a r =>
      cases m with
      | nil => cases z
      | cons b q => cases z
theorem DrS.dict {T : List (Addr × Str)} {H0 H : Hp} {secs : List Sec} {cars : List Car} {i : Nat} {g : Str → List Int} {TK PD OD LD G : Addr} {ds os ls : List Addr} {kG : List (Key × V)} (D : DrS T H0 H secs cars i g TK PD OD LD ds os ls) (hG : H G = some (.dK kG)) (n1 : TK ≠ G) (n2 : PD ≠ G) (n3 : ∀ d ∈ ls, d ≠ G) (nw : New H0 G) (x : List (Key × V)) :
    DrS T H0 (upd H G (.dK x)) secs cars i g TK PD OD LD ds os ls := by
  have kl : ∀ b xs, H b = some (.lst xs) → upd H G (.dK x) b = some (.lst xs) := fun b xs e => by rw [upd_ne (ne_of e hG (by intro z; cases z))]; exact e
  refine { D with ext := fun b o e n => ?_, tabs := fun p hp => ?_, tk := ?_, dv := fun q c d h1 h2 => kl _ _ (D.dv q c d h1 h2), pd := ?_, od := kl _ _ D.od, ov := fun k d h => kl _ _ (D.ov k d h), ld := kl _ _ D.ld, lv := fun k d h => ?_ }
  · rw [upd_ne (nw b o e n)]
    exact D.ext b o e n
  · obtain ⟨ps, z1, z2, z3⟩ := D.tabs p hp
    refine ⟨ps, by rw [upd_ne (ne_of z1 hG (by intro z; cases z))]; exact z1, z2, fun pos cv hcv => ?_⟩
    obtain ⟨cc, y1, y2⟩ := z3 pos cv hcv
    exact ⟨cc, y1, by rw [upd_ne (ne_of y2 hG (by intro z; unfold CodeO at z; cases z))]; exact y2⟩
  · obtain ⟨kt, a, b⟩ := D.tk
    exact ⟨kt, by rw [upd_ne n1]; exact a, b⟩
  · obtain ⟨kp, a, b⟩ := D.pd
    exact ⟨kp, by rw [upd_ne n2]; exact a, b⟩
  · obtain ⟨kv, a, b⟩ := D.lv k d h
    exact ⟨kv, by rw [upd_ne (n3 d (List.mem_of_getElem? h))]; exact a, b⟩
theorem same_new {H : Hp} {p : Addr} (h : H p = none) (o : HO) : Same H (upd H p o) := fun b x e => by rw [upd_ne (ne_of_none e h)]; exact e
theorem sort_pairs {cars : List Car} {ts : List Addr} (c2 : ts.length = cars.length) (nd : (names cars).Nodup) : ∃ sp : List (Car × Addr), (isort ((cars.map (·.start)).zip (ts.map V.ref))).map (·.2) = sp.map (fun q => V.ref q.2) ∧ (∀ q ∈ sp, q ∈ cars.zip ts) ∧ sp.map (fun q => q.1.name) = (pl0 cars).ord := by
  refine ⟨sortBy (fun q : Car × Addr => q.1.start) (cars.zip ts), ?_, fun q hq => ?_, ?_⟩
  · have e1 : (cars.map (·.start)).zip (ts.map V.ref) = ((cars.zip ts).map fun x => (x.1.start, x)).map fun q => (q.1, V.ref q.2.2) := by
      rw [List.zip_map, List.map_map]
      rfl
    rw [e1, isort_map (fun q : Car × Addr => V.ref q.2), List.map_map]
    unfold sortBy
    rw [List.map_map]
    rfl
  · exact (sortBy_perm _ _).mem_iff.mp hq
  · have e2 : names cars = (cars.zip ts).map fun q => q.1.name := by
      have : (cars.zip ts).map Prod.fst = cars := List.map_fst_zip (by omega)
      unfold names
      conv => lhs; rw [← this]
      rw [List.map_map]
      rfl
    show _ = sortBy (startOf cars) (names cars)
    rw [e2]
    exact (sortBy_map (fun q : Car × Addr => q.1.name) (fun q => q.1.start) (startOf cars) (cars.zip ts) fun q hq => startOf_car nd (List.of_mem_zip hq).1).symm
section
variable {P : Program} {w : World} {K : PySem.W.Frag} {mg : Str → Option Value} {base : Heap}
def TksAt (H : Hp) (a : Addr) (secs : List Sec) (cars : List Car) : Prop := ∃ kt, H a = some (.dK kt) ∧ ∀ c ∈ cars, ∃ d, valV kt (Sum.inr c.name : Key) = some (.ref d) ∧ H d = some (.lst ((tkl secs cars secs.length c.name).map V.int))
def LdsAt (H : Hp) (a : Addr) (secs : List Sec) (cars : List Car) : Prop := ∃ ls : List Addr, H a = some (.lst (ls.map V.ref)) ∧ ls.length = secs.length ∧ ∀ (k : Nat) (d : Addr), ls[k]? = some d → ∃ kv, H d = some (.dK kv) ∧ ∀ n, valV kv (Sum.inr n : Key) = (ldrC secs cars k n).map V.str
def spDriven (T : List (Addr × Str)) : Sp := fun vs H Q _ => ∃ (s a : Addr) (secs : List Sec) (cars : List Car), vs = [.ref s, .ref a] ∧ RunsAt H s secs ∧ CarsAt H a cars ∧ SecsOk secs ∧ CarsOk cars ∧ Tabs T H ∧
  ∀ H' t tk od ld, ExtN H H' → Tabs T H' → H' t = some (.tup [.ref tk, .ref od, .ref ld]) → TksAt H' tk secs cars → OrdsAt H' od secs cars → LdsAt H' ld secs cars → Q (.ref t) H'
theorem ok_driven {f c Pt : Addr} {fd : FuncData} {T : List (Addr × Str)} (F : FbC K mg "_law_driven" sDriven ["_law_sections_here", "_law_cars_here"] f fd c) (M : Mg mg) (TB : TabB base mg c Pt) (hm : (Pt, qDriven) ∈ T) (hu : ∀ p ∈ T, p.1 = Pt → p.2 = qDriven) :
    FnOk P w K mg base CX0 3 f fd ["_law_sections_here", "_law_cars_here"] (spDriven T) := by
  refine F.fn.ok scDriven (fun vs H Q E h => ?_) (fun A outer s H vs Q E hr h => ?_)
  · obtain ⟨s, a, secs, cars, rfl, _⟩ := h
    rfl
  · obtain ⟨sa, ca, secs, cars, rfl, hS, hC, SO, CO, hT, k⟩ := h
    have nd := scDriven.nd
    have hc1 := hu_of hr
    refine ⟨_, pss_cons (ps_setLc (i := 2) (own := [("_law_car", 3)]) (g := gName 3) (tt := tYes) (te := tOp (rIxT K) (tVar 3) (tC (.int 0))) (by rfl) nd rfl rfl (sw_true rfl rfl rfl (by decide +kernel)) (pi_list (pe_sortLam (par := "_law_car") (r := keyItem K 1) hr TB rfl hm hu (by rfl) M.sorted (lamP_by (sc := defScope sDriven) (by decide +kernel)) (pv 1) (pk_item (lamP_by (sc := defScope sDriven) (by decide +kernel)) (by decide)))) (blkOk_by (N := nDriven) (sc := defScope sDriven) (by decide +kernel))
        (fun _ _ _ _ _ => pg_name (i := 3) nd rfl (Or.inl rfl)) (fun _ _ _ _ _ => pts_nil) (fun _ _ _ _ _ => pe_ix (r := rIxT K) ix_tup (pv 3) pe_int (fun _ _ => rfl)))
      (pss_cons (ps_asg (pe_tup (pa_cons pe_dnewK (pa_cons pe_dnewK (pa_cons (pe_lst (pa_cons (pe_callTy call_list_of (by rfl) M.list (by decide +kernel) (pa_cons (pv 2) pa_nil)) pa_nil)) (pa_cons (pe_lst pa_nil) pa_nil))))) (pg_tup rfl (pgs_cons (pg_name (i := 4) nd rfl (.inl rfl)) (pgs_cons (pg_name (i := 5) nd rfl (.inl rfl)) (pgs_cons (pg_name (i := 6) nd rfl (.inl rfl)) (pgs_cons (pg_name (i := 7) nd rfl (.inl rfl)) pgs_nil))))))
      (pss_cons (ps_for PassesOwn.never rfl (pi_tup (pv 1)) (pg_tup rfl (pgs_cons (pg_name (i := 8) nd rfl (.inl rfl)) (pgs_cons (pg_name (i := 9) nd rfl (.inl rfl)) (pgs_cons (pg_name (i := 10) nd rfl (.inl rfl)) pgs_nil))))
        (pss_one (ps_asg (pe_tup (pa_cons (pe_lst (pa_cons (pv 9) pa_nil)) (pa_cons (pv 10) pa_nil))) (pg_tup rfl (pgs_cons (pg_sub (pv 4) (pv 8) (set_dict hc1)) (pgs_cons (pg_sub (pv 5) (pv 8) (set_dict hc1)) pgs_nil))))))
      (pss_cons (ps_for PassesOwn.never rfl (pi_list (pv 0)) (pg_tup rfl (pgs_cons (pg_name (i := 11) nd rfl (.inl rfl)) (pgs_cons (pg_name (i := 12) nd rfl (.inl rfl)) pgs_nil)))
        (pss_cons (ps_asg (pe_tup (pa_cons pe_dnewK (pa_cons pe_dnewK (pa_cons pe_non pa_nil)))) (pg_tup rfl (pgs_cons (pg_name (i := 13) nd rfl (.inr rfl)) (pgs_cons (pg_name (i := 14) nd rfl (.inl rfl)) (pgs_cons (pg_name (i := 15) nd rfl (.inl rfl)) pgs_nil)))))
        (pss_cons (ps_for PassesOwn.never rfl (pi_list (pv 2)) (pg_name (i := 8) nd rfl (.inl rfl))
          (pss_one (ps_dput hc1 (pv 13) (pv 8) (pe_op op_add (pe_ix ix_list (pe_dget hc1 (pv 4) (pv 8) (fun _ _ => rfl)) (pe_un un_neg pe_int) (fun _ _ => rfl)) (pe_op op_mul (pe_dget hc1 (pv 5) (pv 8) (fun _ _ => rfl)) (pv 12))) rfl)))
        (pss_cons (ps_for PassesOwn.never rfl (pi_list (pv 2)) (pg_name (i := 8) nd rfl (.inl rfl))
          (pss_cons (ps_set (i := 16) nd rfl (.inl rfl) (pe_dget hc1 (pv 13) (pv 8) (fun _ _ => rfl)))
          (pss_cons (ps_if (PW.pt (pw_and (pt_cmpR op_eq (pv 11) pe_str (nomark _)) (pw_and (pt_cmp (pc_notN (pv 15))) (pw_and1 (pt_cmpR op_gt (pe_ix ix_list (pe_dget hc1 (pv 4) (pv 15) (fun _ _ => rfl)) (pe_un un_neg pe_int) (fun _ _ => rfl)) (pv 16) (nomark _))))))
            (pss_cons (ps_set (i := 16) nd rfl (.inl rfl) (pe_ix ix_list (pe_dget hc1 (pv 4) (pv 15) (fun _ _ => rfl)) (pe_un un_neg pe_int) (fun _ _ => rfl)))
            (pss_one (ps_dput hc1 (pv 14) (pv 8) (pe_dget2 hc1 (pv 14) (pv 15) (pv 15) ⟨rfl, rfl, rfl, rfl⟩) rfl))) pss_nil)
          (pss_cons (ps_expr (pe_bm PySem.F.plainAttrs_list PySem.F.slot_list_append PySem.F.type_list_append mt_append (pe_dget hc1 (pv 4) (pv 8) (fun _ _ => rfl)) (pa_cons (pv 16) pa_nil)))
          (pss_one (ps_set (i := 15) nd rfl (.inl rfl) (pv 8)))))))
        (pss_cons (ps_if (pt_cmpR op_eq (pv 11) pe_str (nomark _))
          (pss_one (ps_set (i := 2) nd rfl (.inl rfl) (pe_sortLam (par := "_law_name") hr TB rfl hm hu (by rfl) M.sorted (lamP_by (sc := defScope sDriven) (by decide +kernel)) (pv 2) (pk_dict (j := 13) rfl (by decide +kernel) (by decide +kernel) (lamP_by (sc := defScope sDriven) (by decide +kernel)) (Or.inr (Or.inl rfl)))))) pss_nil)
        (pss_cons (ps_expr (pe_bm PySem.F.plainAttrs_list PySem.F.slot_list_append PySem.F.type_list_append mt_append (pv 6) (pa_cons (pe_callTy call_list_of (by rfl) M.list (by decide +kernel) (pa_cons (pv 2) pa_nil)) pa_nil)))
        (pss_one (ps_expr (pe_bm PySem.F.plainAttrs_list PySem.F.slot_list_append PySem.F.type_list_append mt_append (pv 7) (pa_cons (pv 14) pa_nil))))))))))
      (pss_one (ps_ret (pe_tup (pa_cons (pv 4) (pa_cons (pv 6) (pa_cons (pv 7) pa_nil))))))))), ?_⟩
    have ndn : (names cars).Nodup := CO.nd
    obtain ⟨ts, c1, c2, c3⟩ := hC
    obtain ⟨us, u1, u2, u3⟩ := hS
    have hzip : (cars.map (·.start)).length = (ts.map V.ref).length := by rw [List.length_map, List.length_map, c2]
    refine ⟨_, rfl, ca, ts.map V.ref, cars.map (·.start), rfl, .inr (SqT.of c1), hzip, hT, fun H2 e2 i x kk hx hkk => ?_, fun H2 D e2 T2 fD => ?_⟩
    · rw [List.getElem?_map] at hx hkk
      obtain ⟨t, ht, rfl⟩ := Option.map_eq_some_iff.mp hx
      obtain ⟨c, hc, rfl⟩ := Option.map_eq_some_iff.mp hkk
      exact ⟨t, c.vs, rfl, SqT.of (ExtN.tup e2 (c3 i t c ht hc)), rfl⟩
    obtain ⟨sp, esp, hsp, hnm⟩ := sort_pairs c2 ndn
    rw [esp]
    have e3 : ExtN H (upd H2 D (.lst (sp.map fun q => V.ref q.2))) := fun b o e n => by rw [upd_ne (ne_of_none (e2 b o e n) fD)]; exact e2 b o e n
    have T3 : Tabs T (upd H2 D (.lst (sp.map fun q => V.ref q.2))) := T2.ext fun b o e => by rw [upd_ne (ne_of_none e fD)]; exact e
    have hD3 : upd H2 D (.lst (sp.map fun q => V.ref q.2)) D = some (.lst (sp.map fun q => V.ref q.2)) := upd_same
    generalize upd H2 D (.lst (sp.map fun q => V.ref q.2)) = H3 at e3 T3 hD3 ⊢
    refine ⟨D, rfl, ⟨_, SqL.of hD3⟩, fun O hO => ?_⟩
    refine lc_it walk_list (fun i H1 => Same H3 H1 ∧ H1 O = some (.lst (((sp.take i).map fun q => q.1.name).map V.str)))
      ⟨fun b o e => by rw [upd_ne (ne_of_none e hO)]; exact e, upd_same⟩ (fun i H1 _ ⟨k1, _⟩ => SqL.of (k1 _ _ hD3)) ?_ ?_
    · rintro i y H1 H4 hi ⟨k1, hO1⟩ ⟨e, hy⟩
      subst e
      obtain ⟨q, hq, rfl⟩ : ∃ q, sp[i]? = some q ∧ y = V.ref q.2 := by
        rw [List.getElem?_map] at hy
        obtain ⟨t, z1, z2⟩ := Option.map_eq_some_iff.mp hy
        exact ⟨t, z1, z2.symm⟩
      have hmz := hsp q (List.mem_of_getElem? hq)
      obtain ⟨j, hj⟩ := List.mem_iff_getElem?.mp hmz
      obtain ⟨hj1, hj2⟩ := List.getElem?_zip_eq_some.mp hj
      have hqt := k1 _ _ (ExtN.tup e3 (c3 j q.2 q.1 hj2 hj1))
      have hsl : sp.length ≤ 1000 := by
        have h1 := congrArg List.length hnm
        rw [List.length_map, (pl0_perm cars).length_eq] at h1
        unfold names at h1
        rw [List.length_map] at h1
        have := CO.few
        omega
      refine ⟨rfl, yes_of ?_⟩
      refine ⟨_, rfl, q.2, _, _, _, rfl, rfl, SqT.of hqt, rfl, _, hO1, ?_, fun b o e => by rw [upd_ne (ne_of_none e hO)]; exact k1 _ _ e, ?_⟩
      · rw [List.length_map, List.length_map, List.length_take]
        exact small1000 (by omega)
      · rw [upd_same, tk1 hq, List.map_append, List.map_append]
        rfl
    · rintro H1 ⟨k1, hO1⟩
      rw [List.length_map, List.take_length, hnm] at hO1
      have e4 : ExtN H H1 := e3.trans (ExtN.same k1)
      have T4 := T3.ext k1
      clear k1 hD3 T3 e3 hO hsp hnm esp e2 T2 fD
      intro TK hTK
      have S1 := same_new hTK (.dK [])
      have hTK1 : upd H1 TK (.dK []) TK = some (.dK []) := upd_same
      have nwTK : New H TK := New.ext e4 (New.of hTK)
      have e5 := e4.trans (ExtN.same S1)
      have T5 := T4.ext S1
      have hO5 := S1 _ _ hO1
      generalize upd H1 TK (.dK []) = H5 at S1 hTK1 e5 T5 hO5 ⊢
      clear S1 hTK e4 T4 hO1
      intro PD hPD
      have S1 := same_new hPD (.dK [])
      have hPD1 : upd H5 PD (.dK []) PD = some (.dK []) := upd_same
      have nTP : TK ≠ PD := ne_of_none hTK1 hPD
      have nwPD : New H PD := New.ext e5 (New.of hPD)
      have e6 := e5.trans (ExtN.same S1)
      have T6 := T5.ext S1
      have hO6 := S1 _ _ hO5
      have hTK6 := S1 _ _ hTK1
      generalize upd H5 PD (.dK []) = H6 at S1 hPD1 e6 T6 hO6 hTK6 ⊢
      clear S1 hPD hTK1 e5 T5 hO5
      refine ⟨_, rfl, O, _, rfl, .inl (SqL.of hO6), fun Oc hOc => ?_⟩
      have S1 := same_new hOc (.lst ((pl0 cars).ord.map V.str))
      have hOc1 : upd H6 Oc (.lst ((pl0 cars).ord.map V.str)) Oc = some (.lst ((pl0 cars).ord.map V.str)) := upd_same
      have e7 := e6.trans (ExtN.same S1)
      have T7 := T6.ext S1
      have hO7 := S1 _ _ hO6
      have hTK7 := S1 _ _ hTK6
      have hPD7 := S1 _ _ hPD1
      generalize upd H6 Oc (.lst ((pl0 cars).ord.map V.str)) = H7 at S1 hOc1 e7 T7 hO7 hTK7 hPD7 ⊢
      clear S1 hOc e6 T6 hO6 hTK6 hPD1
      refine ⟨by show 1 ≤ sizeLine; decide, fun OD hOD => ?_⟩
      have S1 := same_new hOD (.lst [V.ref Oc])
      have hOD1 : upd H7 OD (.lst [V.ref Oc]) OD = some (.lst [V.ref Oc]) := upd_same
      have nwOD : New H OD := New.ext e7 (New.of hOD)
      have e8 := e7.trans (ExtN.same S1)
      have T8 := T7.ext S1
      have hO8 := S1 _ _ hO7
      have hTK8 := S1 _ _ hTK7
      have hPD8 := S1 _ _ hPD7
      have hOc8 := S1 _ _ hOc1
      generalize upd H7 OD (.lst [V.ref Oc]) = H8 at S1 hOD1 e8 T8 hO8 hTK8 hPD8 hOc8 ⊢
      clear S1 hOD e7 T7 hO7 hTK7 hPD7 hOc1
      refine ⟨Nat.zero_le _, fun LD hLD => ?_⟩
      have S1 := same_new hLD (.lst [])
      have hLD1 : upd H8 LD (.lst []) LD = some (.lst []) := upd_same
      have nwLD : New H LD := New.ext e8 (New.of hLD)
      have nOL : O ≠ LD := ne_of_none hO8 hLD
      have nOcL : Oc ≠ LD := ne_of_none hOc8 hLD
      have e9 := e8.trans (ExtN.same S1)
      have T9 := T8.ext S1
      have hO9 := S1 _ _ hO8
      have hTK9 := S1 _ _ hTK8
      have hPD9 := S1 _ _ hPD8
      have hOc9 := S1 _ _ hOc8
      have hOD9 := S1 _ _ hOD1
      generalize upd H8 LD (.lst []) = H9 at S1 hLD1 e9 T9 hO9 hTK9 hPD9 hOc9 hOD9 ⊢
      clear S1 hLD e8 T8 hO8 hTK8 hPD8 hOc8 hOD1
      refine ⟨by show 4 ≤ sizeLine; decide, fun t0 ht0 => ?_⟩
      have S1 := same_new ht0 (.tup [.ref TK, .ref PD, .ref OD, .ref LD])
      refine ⟨t0, _, rfl, SqT.of upd_same, rfl, _, _, rfl, _, _, rfl, _, _, rfl, _, _, rfl, rfl, ?_⟩
      have eA := e9.trans (ExtN.same S1)
      have TA := T9.ext S1
      have hOA := S1 _ _ hO9
      have hTKA := S1 _ _ hTK9
      have hPDA := S1 _ _ hPD9
      have hOcA := S1 _ _ hOc9
      have hODA := S1 _ _ hOD9
      have hLDA := S1 _ _ hLD1
      show tSeq _ _ _ _ (upd H9 t0 (.tup [.ref TK, .ref PD, .ref OD, .ref LD]))
      generalize upd H9 t0 (.tup [.ref TK, .ref PD, .ref OD, .ref LD]) = HA at S1 eA TA hOA hTKA hPDA hOcA hODA hLDA ⊢
      clear S1 ht0 e9 T9 hO9 hTK9 hPD9 hOc9 hOD9 hLD1
      have htz : (ts.map V.ref).length = cars.length := by rw [List.length_map, c2]
      have h10 : cars.length ≤ 10 := CO.few
      refine ⟨_, rfl, ca, rfl, ⟨_, SqT.of (ExtN.tup eA c1)⟩, for_it walk_tup
        (fun j σ H1 => ∃ v8 v9 v10 ds, σ = [some (.ref sa), some (.ref ca), some (.ref O), none, some (.ref TK), some (.ref PD), some (.ref OD), some (.ref LD), v8, v9, v10, none, none, none, none, none, none] ∧
          ExtN H H1 ∧ Tabs T H1 ∧ H1 O = some (.lst ((pl0 cars).ord.map V.str)) ∧ H1 Oc = some (.lst ((pl0 cars).ord.map V.str)) ∧ H1 OD = some (.lst [V.ref Oc]) ∧ H1 LD = some (.lst []) ∧
          (∃ kt, H1 TK = some (.dK kt) ∧ kt.length ≤ j ∧ ∀ (q : Nat) (c : Car) (d : Addr), cars[q]? = some c → ds[q]? = some d → valV kt (Sum.inr c.name : Key) = some (.ref d)) ∧
          (∃ kp, H1 PD = some (.dK kp) ∧ kp.length ≤ j ∧ ∀ c ∈ cars.take j, valV kp (Sum.inr c.name : Key) = some (.int c.pace)) ∧
          ds.length = j ∧ ds.Nodup ∧ (∀ d ∈ ds, New H d) ∧ ∀ (q : Nat) (c : Car) (d : Addr), cars[q]? = some c → ds[q]? = some d → H1 d = some (.lst [.int c.start]))
        ⟨none, none, none, [], rfl, eA, TA, hOA, hOcA, hODA, hLDA, ⟨[], hTKA, Nat.le_refl _, fun q c d _ e => by simp at e⟩, ⟨[], hPDA, Nat.le_refl _, fun c hc => by simp at hc⟩, rfl, by simp, fun d hd => absurd hd (by simp), fun q c d _ e => absurd e (by simp)⟩
        (fun j σ H1 _ ⟨_, _, _, _, _, e1, _⟩ => SqT.of (ExtN.tup e1 c1)) ?_ ?_⟩
      · rintro j y σ H1 H2 hj ⟨v8, v9, v10, ds, rfl, e1, T1, hO1, hOc1, hOD1, hLD1, ⟨kt, hkt, lkt, vkt⟩, ⟨kp, hkp, lkp, vkp⟩, dl, dn, dnew, dv⟩ ⟨e, hy⟩
        subst e
        obtain ⟨t, ht, rfl⟩ : ∃ t, ts[j]? = some t ∧ y = V.ref t := by
          rw [List.getElem?_map] at hy
          obtain ⟨t, z1, z2⟩ := Option.map_eq_some_iff.mp hy
          exact ⟨t, z1, z2.symm⟩
        have hic : j < cars.length := by rw [htz] at hj; exact hj
        obtain ⟨c, hc⟩ : ∃ c, cars[j]? = some c := ⟨_, List.getElem?_eq_getElem hic⟩
        have hct := ExtN.tup e1 (c3 j t c ht hc)
        refine ⟨t, _, rfl, SqT.of hct, rfl, _, _, rfl, _, _, rfl, _, _, rfl, rfl, ?_⟩
        refine ⟨_, rfl, by show 1 ≤ sizeLine; decide, fun d hd => ?_⟩
        have S1 := same_new hd (.lst [V.int c.start])
        have hd1 : upd H2 d (.lst [V.int c.start]) d = some (.lst [V.int c.start]) := upd_same
        have nwd : New H d := New.ext e1 (New.of hd)
        have ndd : d ∉ ds := fun z => by
          obtain ⟨q, hq⟩ := List.mem_iff_getElem?.mp z
          have hq2 : q < cars.length := by
            have := (List.getElem?_eq_some_iff.mp hq).1
            omega
          rw [dv q _ d (List.getElem?_eq_getElem hq2) hq] at hd
          cases hd
        generalize upd H2 d (.lst [V.int c.start]) = H3 at S1 hd1 ⊢
        refine ⟨_, rfl, by show 2 ≤ sizeLine; decide, fun tt htt => ?_⟩
        have S2 := S1.trans (same_new htt (.tup [V.ref d, V.int c.pace]))
        have hd4 := (same_new htt (.tup [V.ref d, V.int c.pace])) _ _ hd1
        have htt4 : upd H3 tt (.tup [V.ref d, V.int c.pace]) tt = some (.tup [V.ref d, V.int c.pace]) := upd_same
        generalize upd H3 tt (.tup [V.ref d, V.int c.pace]) = H4 at S2 hd4 htt4 ⊢
        have hkt4 := S2 _ _ hkt
        have hkp4 := S2 _ _ hkp
        have zT : kt.length < sizeLine := small1000 (by omega)
        have zP : kp.length < sizeLine := small1000 (by omega)
        refine ⟨tt, _, rfl, SqT.of htt4, rfl, _, _, rfl, _, rfl, _, rfl, TK, _, rfl, DPut.k (k := (Sum.inr c.name : Key)) hkt4 zT, _, _, rfl, _, rfl, _, rfl, PD, _, rfl, DPut.k (k := (Sum.inr c.name : Key)) (by rw [upd_ne nTP.symm]; exact hkp4) zP, rfl, ?_⟩
        have kp5 : ∀ b o, H4 b = some o → b ≠ TK → b ≠ PD → upd (upd H4 TK (.dK (putK kt (Sum.inr c.name : Key) (.ref d)))) PD (.dK (putK kp (Sum.inr c.name : Key) (.int c.pace))) b = some o := fun b o e n1 n2 => by
          rw [upd_ne n2, upd_ne n1]
          exact e
        have kl5 : ∀ b xs, H4 b = some (.lst xs) → upd (upd H4 TK (.dK (putK kt (Sum.inr c.name : Key) (.ref d)))) PD (.dK (putK kp (Sum.inr c.name : Key) (.int c.pace))) b = some (.lst xs) := fun b xs e => kp5 b _ e (ne_of e hkt4 (by intro z; cases z)) (ne_of e hkp4 (by intro z; cases z))
        have hT5 : upd (upd H4 TK (.dK (putK kt (Sum.inr c.name : Key) (.ref d)))) PD (.dK (putK kp (Sum.inr c.name : Key) (.int c.pace))) TK = some (.dK (putK kt (Sum.inr c.name : Key) (.ref d))) := by rw [upd_ne nTP, upd_same]
        have hP5 : upd (upd H4 TK (.dK (putK kt (Sum.inr c.name : Key) (.ref d)))) PD (.dK (putK kp (Sum.inr c.name : Key) (.int c.pace))) PD = some (.dK (putK kp (Sum.inr c.name : Key) (.int c.pace))) := upd_same
        refine ⟨_, _, _, ds ++ [d], rfl, fun b o e n => ?_, ?_, kl5 _ _ (S2 _ _ hO1), kl5 _ _ (S2 _ _ hOc1), kl5 _ _ (S2 _ _ hOD1), kl5 _ _ (S2 _ _ hLD1), ⟨_, hT5, Nat.le_trans (length_putK _ _ _) (by omega), fun q c' d' h1 h2 => ?_⟩, ⟨_, hP5, Nat.le_trans (length_putK _ _ _) (by omega), fun c' hc' => ?_⟩, by rw [List.length_append, dl]; rfl, ?_, fun d' hd' => ?_, fun q c' d' h1 h2 => ?_⟩
        · exact kp5 b o (S2 _ _ (e1 b o e n)) (nwTK b o e n) (nwPD b o e n)
        · intro p hp
          obtain ⟨ps, z1, z2, z3⟩ := T1 p hp
          refine ⟨ps, kp5 _ _ (S2 _ _ z1) (ne_of z1 hkt (by intro z; cases z)) (ne_of z1 hkp (by intro z; cases z)), z2, fun pos cv hcv => ?_⟩
          obtain ⟨cc, y1, y2⟩ := z3 pos cv hcv
          exact ⟨cc, y1, kp5 _ _ (S2 _ _ y2) (ne_of y2 hkt (by intro z; unfold CodeO at z; cases z)) (ne_of y2 hkp (by intro z; unfold CodeO at z; cases z))⟩
        · rw [valV_putS]
          rcases snoc_get h2 with h2 | ⟨hq, rfl⟩
          · have hqj : q < j := by
              have := (List.getElem?_eq_some_iff.mp h2).1
              omega
            have hne : ¬ c'.name = c.name := fun z => by
              have a1 : (names cars)[q]? = some c.name := by unfold names; rw [List.getElem?_map, h1]; exact congrArg some z
              have a2 : (names cars)[j]? = some c.name := by unfold names; rw [List.getElem?_map, hc]; rfl
              have := nd_ix ndn a1 a2
              omega
            rw [if_neg hne]
            exact vkt q c' d' h1 h2
          · rw [dl] at hq
            subst hq
            rw [hc] at h1
            cases h1
            rw [if_pos rfl]
        · rw [valV_putS]
          rw [tk1 hc] at hc'
          rcases List.mem_append.mp hc' with hc' | hc'
          · have hne : ¬ c'.name = c.name := fun z => take_new ndn hc (by rw [← z]; exact List.mem_map.mpr ⟨c', hc', rfl⟩)
            rw [if_neg hne]
            exact vkp c' hc'
          · rw [List.mem_singleton.mp hc', if_pos rfl]
        · rw [List.nodup_append]
          refine ⟨dn, by simp, fun x hx z hz => ?_⟩
          rw [List.mem_singleton.mp hz]
          exact fun w => ndd (w ▸ hx)
        · rcases List.mem_append.mp hd' with hd' | hd'
          · exact dnew d' hd'
          · rw [List.mem_singleton.mp hd']
            exact nwd
        · rcases snoc_get h2 with h2 | ⟨hq, rfl⟩
          · exact kl5 _ _ (S2 _ _ (dv q c' d' h1 h2))
          · rw [dl] at hq
            subst hq
            rw [hc] at h1
            cases h1
            exact kl5 _ _ hd4
      · rintro σ HB ⟨v8, v9, v10, ds, rfl, eB, TB2, hOB, hOcB, hODB, hLDB, ⟨kt, hkt, lkt, vkt⟩, ⟨kp, hkp, lkp, vkp⟩, dl, dn, dnew, dv⟩
        rw [htz] at dl lkt lkp vkp
        rw [List.take_length] at vkp
        have et0 : ∀ n, tkl secs cars 0 n = [startOf cars n] := fun n => rfl
        have D0 : DrS T H HB secs cars 0 (tkl secs cars 0) TK PD OD LD ds [Oc] [] := by
          refine ⟨eB, TB2, ⟨kt, hkt, vkt⟩, dl, fun q c d h1 h2 => ?_, fun n => by rw [et0]; simp, dn, dnew, ⟨kp, hkp, vkp⟩, hODB, rfl, fun k d h => ?_, nwOD, hLDB, rfl, fun k d h => by simp at h, nwLD, fun d hd => ?_⟩
          · rw [et0, startOf_car ndn (List.mem_of_getElem? h1)]
            exact dv q c d h1 h2
          · have : k = 0 ∧ Oc = d := by
              cases k with
              | zero => exact ⟨rfl, by simpa using h⟩
              | succ k => simp at h
            obtain ⟨rfl, rfl⟩ := this
            exact hOcB
          · rw [List.mem_singleton.mp hd]
            exact nOcL
        have huz : (us.map V.ref).length = secs.length := by rw [List.length_map, u2]
        refine ⟨_, rfl, sa, rfl, ⟨_, SqL.of (ExtN.lst eB u1)⟩, for_it walk_list
          (fun i σ H1 => ∃ v8 v9 v10 v11 v12 v13 v14 v15 v16 O' os ls, σ = [some (.ref sa), some (.ref ca), some (.ref O'), none, some (.ref TK), some (.ref PD), some (.ref OD), some (.ref LD), v8, v9, v10, v11, v12, v13, v14, v15, v16] ∧
            DrS T H H1 secs cars i (tkl secs cars i) TK PD OD LD ds os ls ∧ H1 O' = some (.lst ((plcC secs cars i).ord.map V.str)) ∧ O' ≠ LD)
          ⟨_, _, _, _, _, _, _, _, _, O, [Oc], [], rfl, D0, hOB, nOL⟩ (fun i σ H1 _ ⟨_, _, _, _, _, _, _, _, _, _, _, _, _, D1, _⟩ => SqL.of (ExtN.lst D1.ext u1)) ?_ ?_⟩
        · rintro i y σ H1 H2 hi ⟨v8, v9, v10, v11, v12, v13, v14, v15, v16, O', os, ls, rfl, D1, hO1, nO1⟩ ⟨e, hy⟩
          subst e
          obtain ⟨t, ht, rfl⟩ : ∃ t, us[i]? = some t ∧ y = V.ref t := by
            rw [List.getElem?_map] at hy
            obtain ⟨t, z1, z2⟩ := Option.map_eq_some_iff.mp hy
            exact ⟨t, z1, z2.symm⟩
          have hic : i < secs.length := by rw [huz] at hi; exact hi
          obtain ⟨sec, hsec⟩ : ∃ s, secs[i]? = some s := ⟨_, List.getElem?_eq_getElem hic⟩
          have htv := ExtN.tup D1.ext (u3 i t sec ht hsec)
          have eN : plcC secs cars (i + 1) = stepP (paceOf cars) (plcC secs cars i) sec := plc_succ (paceOf cars) (pl0 cars) secs hsec
          have eL : ∀ n, ldrC secs cars i n = leadP (paceOf cars) (plcC secs cars i) sec n := fun n => by
            show ldr (paceOf cars) (pl0 cars) secs i n = _
            unfold ldr
            rw [hsec]
          have hperm := plcC_perm secs cars i
          have hndo : (plcC secs cars i).ord.Nodup := hperm.nodup_iff.mpr ndn
          have hcar : ∀ n ∈ (plcC secs cars i).ord, ∃ (q : Nat) (c : Car) (d : Addr), cars[q]? = some c ∧ ds[q]? = some d ∧ c.name = n := fun n hn => by
            obtain ⟨c, hc, e⟩ := List.mem_map.mp (hperm.mem_iff.mp hn)
            obtain ⟨q, hq⟩ := List.mem_iff_getElem?.mp hc
            obtain ⟨d, hd⟩ : ∃ d, ds[q]? = some d := ⟨_, List.getElem?_eq_getElem (by rw [D1.dl]; exact (List.getElem?_eq_some_iff.mp hq).1)⟩
            exact ⟨q, c, d, hq, hd, e⟩
          have hol : (plcC secs cars i).ord.length ≤ 10 := by
            rw [hperm.length_eq]
            unfold names
            rw [List.length_map]
            exact h10
          have hlast := fun n => tkl_last secs cars i n
          have hwt := fun n hn => wrows_tick (paceOf cars) (plcC secs cars i) sec hndo (n := n) hn
          have hwl := fun n => wrows_lead (paceOf cars) (plcC secs cars i) sec n
          refine ⟨t, _, rfl, SqT.of htv, rfl, _, _, rfl, _, _, rfl, rfl, ?_⟩
          intro Fr hFr
          have S1 := same_new hFr (.dK [])
          have hFr1 : upd H2 Fr (.dK []) Fr = some (.dK []) := upd_same
          obtain ⟨kt, hkt, vkt⟩ := D1.tk
          obtain ⟨kp, hkp, vkp⟩ := D1.pd
          have nTF : TK ≠ Fr := ne_of_none hkt hFr
          have nPF : PD ≠ Fr := ne_of_none hkp hFr
          have nOF : O' ≠ Fr := ne_of_none hO1 hFr
          generalize upd H2 Fr (.dK []) = H3 at S1 hFr1 ⊢
          intro G hG
          have S2 := S1.trans (same_new hG (.dK []))
          have hG1 : upd H3 G (.dK []) G = some (.dK []) := upd_same
          have nFG : Fr ≠ G := ne_of_none hFr1 hG
          have nTG : TK ≠ G := ne_of_none (S1 _ _ hkt) hG
          have nPG : PD ≠ G := ne_of_none (S1 _ _ hkp) hG
          have nlG : ∀ d ∈ ls, d ≠ G := fun d hd => by
            obtain ⟨q, hq⟩ := List.mem_iff_getElem?.mp hd
            obtain ⟨kv, a, b⟩ := D1.lv q d hq
            exact ne_of_none (S1 _ _ a) hG
          have nwG : New H G := New.ext (D1.ext.trans (ExtN.same S1)) (New.of hG)
          have hFr2 := same_new hG (.dK []) _ _ hFr1
          generalize upd H3 G (.dK []) = H4 at S2 hG1 hFr2 ⊢
          refine ⟨by show 3 ≤ sizeLine; decide, fun tt htt => ?_⟩
          have SC := S2.trans (same_new htt (.tup [V.ref Fr, V.ref G, V.non]))
          have hGC := same_new htt (.tup [V.ref Fr, V.ref G, V.non]) _ _ hG1
          have hFC := same_new htt (.tup [V.ref Fr, V.ref G, V.non]) _ _ hFr2
          refine ⟨tt, _, rfl, SqT.of upd_same, rfl, _, _, rfl, _, _, rfl, _, _, rfl, rfl, ?_⟩
          show tSeq _ _ _ _ (upd H4 tt (.tup [V.ref Fr, V.ref G, V.non]))
          generalize upd H4 tt (.tup [V.ref Fr, V.ref G, V.non]) = HC at SC hGC hFC ⊢
          clear S1 S2 hFr1 hG1 hFr2 hG htt
          have hOC := SC _ _ hO1
          have hktC := SC _ _ hkt
          have hkpC := SC _ _ hkp
          generalize hfr : freeP (paceOf cars) (plcC secs cars i) sec.2 = fr at *
          have efr : ∀ n, fr n = (plcC secs cars i).tk n + paceOf cars n * ((sec.2 : Nat) : Int) := fun n => by rw [← hfr]; rfl
          generalize hpl : plcC secs cars i = pl at *
          refine ⟨_, rfl, O', rfl, ⟨_, SqL.of hOC⟩, for_it walk_list
            (fun j σ H1 => ∃ v8, σ = [some (.ref sa), some (.ref ca), some (.ref O'), none, some (.ref TK), some (.ref PD), some (.ref OD), some (.ref LD), v8, v9, v10, some (.str (kindS sec.1)), some (.int ((sec.2 : Nat) : Int)), some (.ref Fr), some (.ref G), some .non, v16] ∧
              KeepB Fr HC H1 ∧ ∃ kf, H1 Fr = some (.dK kf) ∧ kf.length ≤ j ∧ ∀ n ∈ pl.ord.take j, valV kf (Sum.inr n : Key) = some (.int (fr n)))
            ⟨v8, rfl, KeepB.refl _ _, [], hFC, Nat.le_refl _, fun n hn => absurd hn (by simp)⟩ (fun j σ H1 _ ⟨_, _, k1, _⟩ => SqL.of (k1 _ _ hOC nOF)) ?_ ?_⟩
          · rintro j y σ H5 H6 hj ⟨v8, rfl, k1, kf, hkf, lkf, vkf⟩ ⟨e, hy⟩
            subst e
            obtain ⟨n, hn, rfl⟩ : ∃ n, pl.ord[j]? = some n ∧ y = V.str n := by
              rw [List.getElem?_map] at hy
              obtain ⟨t, z1, z2⟩ := Option.map_eq_some_iff.mp hy
              exact ⟨t, z1, z2.symm⟩
            obtain ⟨q, c, d, hq, hd, rfl⟩ := hcar n (List.mem_of_getElem? hn)
            have hjo : j < pl.ord.length := (List.getElem?_eq_some_iff.mp hn).1
            have pb := CO.all c (List.mem_of_getElem? hq)
            have hdv := SC _ _ (D1.dv q c d hq hd)
            have hdv2 := k1 _ _ hdv (ne_of hdv hFC (by intro z; cases z))
            obtain ⟨l0, hl0⟩ := hlast c.name
            rw [hl0, List.map_append] at hdv2
            refine ⟨_, rfl, _, rfl, TK, _, rfl, gk (k1 _ _ hktC nTF) (vkt q c d hq hd), _, rfl, d, _, _, .int (pl.tk c.name), rfl, rfl, SqL.of hdv2, atI_last _ _, _, rfl, _, rfl, PD, _, rfl, gk (k1 _ _ hkpC nPF) (vkp c (List.mem_of_getElem? hq)), _, rfl, _, _, rfl, rfl, .inl ⟨by have := pb.p0; omega, by have := pb.p1; omega⟩, _, _, rfl, rfl, _, rfl, _, rfl, Fr, _, rfl, DPut.k (k := (Sum.inr c.name : Key)) hkf (small1000 (by omega)), ?_⟩
            refine ⟨_, rfl, fun b o e n' => by rw [upd_ne n']; exact k1 _ _ e n', _, upd_same, Nat.le_trans (length_putK _ _ _) (by omega), fun a ha => ?_⟩
            rw [tk1 hn] at ha
            rw [valV_putS]
            by_cases ean : a = c.name
            · rw [if_pos ean, ean, efr, paceOf_car ndn (List.mem_of_getElem? hq)]
            · rw [if_neg ean]
              rcases List.mem_append.mp ha with ha | ha
              · exact vkf a ha
              · exact absurd (List.mem_singleton.mp ha) ean
          · rintro σ H5 ⟨v8', rfl, k1, kf, hkf, lkf, vkf⟩
            have e9 : pl.ord.take (pl.ord.map V.str).length = pl.ord := by rw [List.length_map, List.take_length]
            rw [e9] at vkf
            have SB : Same H2 H5 := fun b o e => k1 _ _ (SC _ _ e) (ne_of_none e hFr)
            have D2 := D1.step (ExtN.same SB) (D1.tabs.ext SB)
            have hG5 := k1 _ _ hGC nFG.symm
            have hO5 := SB _ _ hO1
            clear k1 SB hGC hFC hOC hktC hkpC SC
            refine ⟨_, rfl, O', rfl, ⟨_, SqL.of hO5⟩, for_it walk_list
              (fun j σ H1 => ∃ v8 v16 kG, σ = [some (.ref sa), some (.ref ca), some (.ref O'), none, some (.ref TK), some (.ref PD), some (.ref OD), some (.ref LD), v8, v9, v10, some (.str (kindS sec.1)), some (.int ((sec.2 : Nat) : Int)), some (.ref Fr), some (.ref G), some (aheadV (wrows sec.1 fr (pl.ord.take j))), v16] ∧
                DrS T H H1 secs cars i (gOf (tkl secs cars i) (wrows sec.1 fr (pl.ord.take j))) TK PD OD LD ds os ls ∧ H1 O' = some (.lst (pl.ord.map V.str)) ∧ H1 Fr = some (.dK kf) ∧ H1 G = some (.dK kG) ∧ LdD kG (wrows sec.1 fr (pl.ord.take j)) ∧ kG.length ≤ j)
              ⟨v8', v16, [], rfl, by rw [show wrows sec.1 fr (pl.ord.take 0) = [] from rfl, gOf_nil]; exact D2, hO5, hkf, hG5, fun n => rfl, Nat.le_refl _⟩ (fun j σ H1 _ ⟨_, _, _, _, _, h, _⟩ => SqL.of h) ?_ ?_⟩
            · rintro j y σ H7 H6 hj ⟨v8, v16, kG, rfl, D3, hO6, hF6, hG6, hLd, lkG⟩ ⟨e, hy⟩
              subst e
              obtain ⟨n, hn, rfl⟩ : ∃ n, pl.ord[j]? = some n ∧ y = V.str n := by
                rw [List.getElem?_map] at hy
                obtain ⟨t, z1, z2⟩ := Option.map_eq_some_iff.mp hy
                exact ⟨t, z1, z2.symm⟩
              have hjo : j < pl.ord.length := (List.getElem?_eq_some_iff.mp hn).1
              have hno := List.mem_of_getElem? hn
              obtain ⟨q, c, d, hq, hd, ecn⟩ := hcar n hno
              have enames := wrows_names sec.1 fr (pl.ord.take j)
              have hnew : n ∉ (wrows sec.1 fr (pl.ord.take j)).map (·.1) := by
                rw [enames]
                intro hm
                obtain ⟨j2, hj2⟩ := List.mem_iff_getElem?.mp hm
                have hj3 : j2 < j := by
                  have := (List.getElem?_eq_some_iff.mp hj2).1
                  rw [List.length_take] at this
                  omega
                rw [List.getElem?_take_of_lt hj3] at hj2
                have := nd_ix hndo hj2 hn
                omega
              have hndA : ((wrows sec.1 fr (pl.ord.take j)).map (·.1)).Nodup := by
                rw [enames]
                exact hndo.sublist (List.take_sublist _ _)
              have hsubA : ∀ a ∈ (wrows sec.1 fr (pl.ord.take j)).map (·.1), a ∈ pl.ord := fun a ha => by
                rw [enames] at ha
                exact List.mem_of_mem_take ha
              rw [tk1 hn, wrows_snoc]
              generalize wrows sec.1 fr (pl.ord.take j) = acc at *
              have fin : ∀ (x : Int) (ld : Option Str) (kG' : List (Key × V)) (Hx : Hp), wrow sec.1 fr acc n = (n, x, ld) → DrS T H Hx secs cars i (gOf (tkl secs cars i) acc) TK PD OD LD ds os ls → Hx O' = some (.lst (pl.ord.map V.str)) → Hx Fr = some (.dK kf) → Hx G = some (.dK kG') → LdD kG' (acc ++ [(n, x, ld)]) → kG'.length ≤ j + 1 →
                  ∃ v8 v16 kG, ([some (.ref sa), some (.ref ca), some (.ref O'), none, some (.ref TK), some (.ref PD), some (.ref OD), some (.ref LD), some (.str n), v9, v10, some (.str (kindS sec.1)), some (.int ((sec.2 : Nat) : Int)), some (.ref Fr), some (.ref G), some (.str n), some (.int x)] : L2.St) = [some (.ref sa), some (.ref ca), some (.ref O'), none, some (.ref TK), some (.ref PD), some (.ref OD), some (.ref LD), v8, v9, v10, some (.str (kindS sec.1)), some (.int ((sec.2 : Nat) : Int)), some (.ref Fr), some (.ref G), some (aheadV (acc ++ [wrow sec.1 fr acc n])), v16] ∧
                    DrS T H (upd Hx d (.lst ((gOf (tkl secs cars i) acc n).map V.int ++ [.int x]))) secs cars i (gOf (tkl secs cars i) (acc ++ [wrow sec.1 fr acc n])) TK PD OD LD ds os ls ∧ (upd Hx d (.lst ((gOf (tkl secs cars i) acc n).map V.int ++ [.int x]))) O' = some (.lst (pl.ord.map V.str)) ∧ (upd Hx d (.lst ((gOf (tkl secs cars i) acc n).map V.int ++ [.int x]))) Fr = some (.dK kf) ∧ (upd Hx d (.lst ((gOf (tkl secs cars i) acc n).map V.int ++ [.int x]))) G = some (.dK kG) ∧ LdD kG (acc ++ [wrow sec.1 fr acc n]) ∧ kG.length ≤ j + 1 := fun x ld kG' Hx ew DX hOx hFx hGx hLx lx => by
                rw [ew]
                obtain ⟨tk1', tk2'⟩ := DX.tickKeep hq hd (.lst ((gOf (tkl secs cars i) acc n).map V.int ++ [.int x]))
                refine ⟨some (.str n), some (.int x), kG', ?_, ?_, tk2' _ _ hOx, tk1' _ _ hFx fun _ z => (nomatch z), tk1' _ _ hGx fun _ z => (nomatch z), hLx, lx⟩
                · have : aheadV (acc ++ [(n, x, ld)]) = .str n := by
                    unfold aheadV
                    rw [List.getLast?_append]
                    rfl
                  rw [this]
                · have := DX.tick ndn hq hd x
                  rw [ecn] at this
                  rw [← gOf_snoc (tkl secs cars i) acc (n, x, ld) hnew]
                  exact this
              have hdn := D3.dv q c d hq hd
              rw [ecn] at hdn
              obtain ⟨kt3, hkt3, vkt3⟩ := D3.tk
              have vn := vkt3 q c d hq hd
              rw [ecn] at vn
              have gsz : (gOf (tkl secs cars i) acc n).length ≤ 100 := by
                unfold gOf
                rw [look_none hnew, List.append_nil]
                unfold tkl
                rw [List.length_map, List.length_range]
                have := SO.few
                omega
              have zD : ((gOf (tkl secs cars i) acc n).map V.int).length < sizeLine := by rw [List.length_map]; exact small1000 (by omega)
              refine ⟨_, rfl, _, rfl, Fr, _, rfl, gk hF6 (vkf n hno), ?_⟩
              refine ⟨_, rfl, rfl, _, rfl, ?_⟩
              have ek : decide (V.str (kindS sec.1) = V.str "narrow") = !sec.1 := by cases sec.1 <;> decide +kernel
              rw [ek]
              cases hw : sec.1 with
              | true =>
                refine iteF ?_
                refine iteF ?_
                have ew : wrow sec.1 fr acc n = (n, fr n, none) := by unfold wrow; rw [hw]; rfl
                refine ⟨_, rfl, _, rfl, TK, _, rfl, gk hkt3 vn, .inl ⟨rfl, _, SqL.of hdn⟩, _, rfl, d, _, _, rfl, rfl, hdn, zD, _, rfl, ?_⟩
                have z := fin (fr n) none kG H6 ew D3 hO6 hF6 hG6 (hLd.skip (r := (n, fr n, none)) hnew rfl) (by omega)
                rw [hw] at z
                exact z
              | false =>
                refine iteT ?_
                cases hl : acc.getLast? with
                | none =>
                  have eV : aheadV acc = .non := by unfold aheadV; rw [hl]
                  have ew : wrow sec.1 fr acc n = (n, fr n, none) := by
                    unfold wrow
                    rw [hw]
                    show fnext fr acc n = _
                    unfold fnext
                    rw [hl]
                  rw [eV]
                  refine ⟨_, rfl, _, rfl, ?_⟩
                  rw [show (!decide (V.non = V.non)) = false by simp]
                  refine iteF ?_
                  refine iteF ?_
                  refine ⟨_, rfl, _, rfl, TK, _, rfl, gk hkt3 vn, .inl ⟨rfl, _, SqL.of hdn⟩, _, rfl, d, _, _, rfl, rfl, hdn, zD, _, rfl, ?_⟩
                  have z := fin (fr n) none kG H6 ew D3 hO6 hF6 hG6 (hLd.skip (r := (n, fr n, none)) hnew rfl) (by omega)
                  rw [hw] at z
                  exact z
                | some r =>
                  obtain ⟨a, t, l⟩ := r
                  have eV : aheadV acc = .str a := by unfold aheadV; rw [hl]
                  have la := look_last hndA hl
                  have hao : a ∈ pl.ord := hsubA a (List.mem_map.mpr ⟨_, List.mem_of_getLast? hl, rfl⟩)
                  obtain ⟨qa, ca', da, hqa, hda, eca⟩ := hcar a hao
                  have hav := D3.dv qa ca' da hqa hda
                  rw [eca, gOf_in la, List.map_append] at hav
                  have va := vkt3 qa ca' da hqa hda
                  rw [eca] at va
                  rw [eV]
                  refine ⟨_, rfl, _, rfl, ?_⟩
                  rw [show (!decide (V.str a = V.non)) = true by simp]
                  refine iteT ?_
                  refine ⟨_, rfl, _, rfl, TK, _, rfl, gk hkt3 va, _, rfl, da, _, _, .int t, rfl, rfl, SqL.of hav, atI_last _ _, _, rfl, _, _, rfl, rfl, _, rfl, ?_⟩
                  by_cases hcmp : fr n < t
                  · rw [decide_eq_true hcmp]
                    refine iteT ?_
                    have ew : wrow sec.1 fr acc n = (n, t, some (l.getD a)) := by
                      unfold wrow
                      rw [hw]
                      show fnext fr acc n = _
                      unfold fnext
                      rw [hl]
                      exact if_pos hcmp
                    have gG : valV kG (Sum.inr a : Key) = l.map V.str := by rw [hLd a, la]; rfl
                    have eg : ((l.map V.str).getD (.str a)) = V.str (l.getD a) := by cases l <;> rfl
                    have l3 := length_putK kG (Sum.inr n : Key) (.str (l.getD a))
                    refine ⟨_, rfl, _, rfl, TK, _, rfl, gk hkt3 va, _, rfl, da, _, _, .int t, rfl, rfl, SqL.of hav, atI_last _ _, ?_⟩
                    refine ⟨_, rfl, G, rfl, .inl ⟨_, .inl hG6⟩, _, rfl, _, rfl, _, gk0 hG6 gG, ?_⟩
                    rw [eg]
                    refine ⟨_, rfl, _, rfl, G, _, rfl, DPut.k (k := (Sum.inr n : Key)) hG6 (small1000 (by omega)), ?_⟩
                    have D4 := D3.dict hG6 nTG nPG nlG nwG (putK kG (Sum.inr n : Key) (.str (l.getD a)))
                    have kl : ∀ b xs, H6 b = some (.lst xs) → upd H6 G (.dK (putK kG (Sum.inr n : Key) (.str (l.getD a)))) b = some (.lst xs) := fun b xs e => by rw [upd_ne (ne_of e hG6 (by intro z; cases z))]; exact e
                    refine ⟨_, rfl, _, rfl, TK, _, rfl, gk (by rw [upd_ne nTG]; exact hkt3) vn, .inl ⟨rfl, _, SqL.of (kl _ _ hdn)⟩, _, rfl, d, _, _, rfl, rfl, kl _ _ hdn, zD, _, rfl, ?_⟩
                    have z := fin t (some (l.getD a)) _ _ ew D4 (kl _ _ hO6) (by rw [upd_ne nFG]; exact hF6) upd_same (hLd.put (r := (n, t, some (l.getD a))) hnew rfl) (by omega)
                    rw [hw] at z
                    exact z
                  · rw [decide_eq_false hcmp]
                    refine iteF ?_
                    have ew : wrow sec.1 fr acc n = (n, fr n, none) := by
                      unfold wrow
                      rw [hw]
                      show fnext fr acc n = _
                      unfold fnext
                      rw [hl]
                      exact if_neg hcmp
                    refine ⟨_, rfl, _, rfl, TK, _, rfl, gk hkt3 vn, .inl ⟨rfl, _, SqL.of hdn⟩, _, rfl, d, _, _, rfl, rfl, hdn, zD, _, rfl, ?_⟩
                    have z := fin (fr n) none kG H6 ew D3 hO6 hF6 hG6 (hLd.skip (r := (n, fr n, none)) hnew rfl) (by omega)
                    rw [hw] at z
                    exact z
            · rintro σ H6 ⟨v8'', v16', kG, rfl, D3, hO6, hF6, hG6, hLd, lkG⟩
              rw [e9] at D3 hLd
              have D4 : DrS T H H6 secs cars i (tkl secs cars (i + 1)) TK PD OD LD ds os ls := by
                refine D3.congr (fun c hc => ?_) fun n => ?_
                · have hcn : c.name ∈ pl.ord := hperm.mem_iff.mpr (List.mem_map.mpr ⟨c, hc, rfl⟩)
                  obtain ⟨x, hx, ex⟩ := hwt c.name hcn
                  rw [gOf_in hx, tkl_succ, eN, ex]
                · rw [tkl_succ]
                  simp
              have hled : ∀ n, valV kG (Sum.inr n : Key) = (ldrC secs cars i n).map V.str := fun n => by
                rw [hLd n, lead_map, hwl n, eL n]
              refine ⟨_, rfl, rfl, _, rfl, ?_⟩
              have ek : decide (V.str (kindS sec.1) = V.str "wide") = sec.1 := by cases sec.1 <;> decide +kernel
              rw [ek]
              have zO : (os.map V.ref).length < sizeLine := by rw [List.length_map, D4.ol]; have := SO.few; exact small1000 (by omega)
              have zL : (ls.map V.ref).length < sizeLine := by rw [List.length_map, D4.ll]; have := SO.few; exact small1000 (by omega)
              have fin : ∀ (Hx : Hp) (O2 Oc2 : Addr), ExtN H6 Hx → Tabs T Hx → Hx O2 = some (.lst ((plcC secs cars (i + 1)).ord.map V.str)) → O2 ≠ LD → Hx Oc2 = none →
                  DrS T H (upd (upd (upd Hx Oc2 (.lst ((plcC secs cars (i + 1)).ord.map V.str))) OD (.lst (os.map V.ref ++ [.ref Oc2]))) LD (.lst (ls.map V.ref ++ [.ref G]))) secs cars (i + 1) (tkl secs cars (i + 1)) TK PD OD LD ds (os ++ [Oc2]) (ls ++ [G]) ∧
                  (upd (upd (upd Hx Oc2 (.lst ((plcC secs cars (i + 1)).ord.map V.str))) OD (.lst (os.map V.ref ++ [.ref Oc2]))) LD (.lst (ls.map V.ref ++ [.ref G]))) O2 = some (.lst ((plcC secs cars (i + 1)).ord.map V.str)) ∧ O2 ≠ LD ∧
                  (upd Hx Oc2 (.lst ((plcC secs cars (i + 1)).ord.map V.str))) OD = some (.lst (os.map V.ref)) ∧ (upd (upd Hx Oc2 (.lst ((plcC secs cars (i + 1)).ord.map V.str))) OD (.lst (os.map V.ref ++ [.ref Oc2]))) LD = some (.lst (ls.map V.ref)) := fun Hx O2 Oc2 ex Tx hO2 nO2 hOc2 => by
                have DX := D4.step ex Tx
                have Sx := same_new hOc2 (.lst ((plcC secs cars (i + 1)).ord.map V.str))
                have nLc : LD ≠ Oc2 := ne_of_none DX.ld hOc2
                have DY := DX.step (ExtN.same Sx) (DX.tabs.ext Sx)
                have hGx := Sx _ _ (ExtN.dK ex hG6)
                exact ⟨DY.put upd_same nLc.symm hGx hled, DY.putStr (Sx _ _ hO2) nO2 _ _, nO2, DY.od, by rw [upd_ne DY.nOL.symm]; exact DY.ld⟩
              cases hw : sec.1 with
              | true =>
                have eo : (plcC secs cars (i + 1)).ord = sortBy fr pl.ord := by
                  rw [eN]
                  unfold stepP
                  rw [hw, hfr]
                  rfl
                rw [eo] at fin
                refine iteT ?_
                refine ⟨_, rfl, O', pl.ord.map V.str, pl.ord.map fr, rfl, .inl (SqL.of hO6), by simp, D4.tabs, fun Hy e i' x kk hx hkk => ?_, fun Hy Dn ey Ty fD => ?_⟩
                · rw [List.getElem?_map] at hx hkk
                  obtain ⟨n, hn, rfl⟩ := Option.map_eq_some_iff.mp hx
                  rw [hn] at hkk
                  cases hkk
                  exact ⟨Fr, kf, .inr n, rfl, .inl (ExtN.dK e hF6), rfl, vkf n (List.mem_of_getElem? hn)⟩
                have es : (isort ((pl.ord.map fr).zip (pl.ord.map V.str))).map (·.2) = (sortBy fr pl.ord).map V.str := by
                  rw [zip_self, isort_map, List.map_map]
                  unfold sortBy
                  rw [List.map_map]
                  rfl
                rw [es]
                have Sd := same_new fD (.lst ((sortBy fr pl.ord).map V.str))
                have hDn : upd Hy Dn (.lst ((sortBy fr pl.ord).map V.str)) Dn = some (.lst ((sortBy fr pl.ord).map V.str)) := upd_same
                have ez := ey.trans (ExtN.same Sd)
                have Tz := Ty.ext Sd
                have nDn : Dn ≠ LD := (ne_of_none (ExtN.lst ey D4.ld) fD).symm
                generalize upd Hy Dn (.lst ((sortBy fr pl.ord).map V.str)) = Hx at Sd hDn ez Tz ⊢
                have DX := D4.step ez Tz
                refine ⟨_, rfl, .inl ⟨rfl, _, SqL.of DX.od⟩, _, rfl, Dn, _, rfl, .inl (SqL.of hDn), fun Oc2 hOc2 => ?_⟩
                obtain ⟨f1, f2, f3, f4, f5⟩ := fin Hx Dn Oc2 ez Tz hDn nDn hOc2
                refine ⟨OD, _, _, rfl, rfl, f4, zO, ?_⟩
                refine ⟨_, rfl, .inl ⟨rfl, _, SqL.of f5⟩, _, rfl, LD, _, _, rfl, rfl, f5, zL, ?_⟩
                exact ⟨_, _, _, _, _, _, _, _, _, Dn, os ++ [Oc2], ls ++ [G], rfl, f1, by rw [eo]; exact f2, f3⟩
              | false =>
                have eo : (plcC secs cars (i + 1)).ord = pl.ord := by
                  rw [eN]
                  unfold stepP
                  rw [hw]
                  rfl
                rw [eo] at fin
                refine iteF ?_
                refine ⟨_, rfl, .inl ⟨rfl, _, SqL.of D4.od⟩, _, rfl, O', _, rfl, .inl (SqL.of hO6), fun Oc2 hOc2 => ?_⟩
                obtain ⟨f1, f2, f3, f4, f5⟩ := fin H6 O' Oc2 (fun _ _ z _ => z) D4.tabs hO6 nO1 hOc2
                refine ⟨OD, _, _, rfl, rfl, f4, zO, ?_⟩
                refine ⟨_, rfl, .inl ⟨rfl, _, SqL.of f5⟩, _, rfl, LD, _, _, rfl, rfl, f5, zL, ?_⟩
                exact ⟨_, _, _, _, _, _, _, _, _, O', os ++ [Oc2], ls ++ [G], rfl, f1, by rw [eo]; exact f2, f3⟩
        · rintro σ H1 ⟨v8, v9, v10, v11, v12, v13, v14, v15, v16, O', os, ls, rfl, D1, hO1, nO1⟩
          rw [huz] at D1
          refine ⟨_, rfl, _, rfl, _, rfl, by show 3 ≤ sizeLine; decide, fun t ht => ?_⟩
          have S1 := same_new ht (.tup [V.ref TK, V.ref OD, V.ref LD])
          have D2 := D1.step (ExtN.same S1) (D1.tabs.ext S1)
          refine k _ t TK OD LD D2.ext D2.tabs upd_same ?_ ⟨os, D2.od, D2.ol, D2.ov⟩ ⟨ls, D2.ld, D2.ll, D2.lv⟩
          obtain ⟨kt', a1, a2⟩ := D2.tk
          refine ⟨kt', a1, fun c hc => ?_⟩
          obtain ⟨q, hq⟩ := List.mem_iff_getElem?.mp hc
          obtain ⟨d, hd⟩ : ∃ d, ds[q]? = some d := ⟨_, List.getElem?_eq_getElem (by rw [D2.dl]; exact (List.getElem?_eq_some_iff.mp hq).1)⟩
          exact ⟨d, a2 q c d hq hd, D2.dv q c d hq hd⟩
end
end Sl

set_option Elab.async false
set_option linter.all false
set_option maxRecDepth 100000
set_option maxHeartbeats 2000000
/-! Lambdas as values: made (with a default, or none), kept in lists, handed to a def that calls them, called. -/
namespace OwnR
open PySem PySem.Spec PyProof.Rows L2 LamX
/-- the text of a lambda; own: its one parameter, whose default is 0 -/
structure LamT where
  par : Arguments
  body : Expr
  scope : Scope
  own : Option Str
/-- at f: the lambda, its defaults at dV -/
def LamA (f : Addr) (q : Str) (cl : List (Str × Addr)) (T : LamT) (c' : Addr) (dV : Value) : HO :=
  .ext fun h => ∃ doc pm ctv : Value, h.get? f = some (PySem.W.kdv_obj "<lambda>" q T.par (.expr T.body) T.scope cl dV doc pm c' ctv)
theorem lamA_tbl {f c' : Addr} {q : Str} {cl : List (Str × Addr)} {T : LamT} {dV : Value} (ps : Array Value) : LamA f q cl T c' dV ≠ .tbl ps := fun z => by
  unfold LamA at z
  cases z
/-- a lambda of the maker (its name q, its cells cl) stands at f -/
def LamV (q : Str) (cl : List (Str × Addr)) (H : Hp) (f : Addr) (T : LamT) : Prop :=
  ∃ (c' : Addr) (dV : Value), H f = some (LamA f q cl T c' dV) ∧ H c' = some (CodeO c' q) ∧ ((T.own = none ∧ dV = .none) ∨ ∃ (a : Str) (t : Addr), T.own = some a ∧ dV = .ref t ∧ H t = some (.tup [.int 0]))
theorem LamV.ext {q : Str} {cl : List (Str × Addr)} {H H' : Hp} {f : Addr} {T : LamT} (h : LamV q cl H f T) (e : ExtN H H') : LamV q cl H' f T := by
  obtain ⟨c', dV, h1, h2, h3⟩ := h
  refine ⟨c', dV, e _ _ h1 lamA_tbl, e _ _ h2 codeO_ne, ?_⟩
  rcases h3 with h3 | ⟨a, t, h4, h5, h6⟩
  · exact .inl h3
  · exact .inr ⟨a, t, h4, h5, e _ _ h6 (fun _ z => nomatch z)⟩
/-- the parameters bind -/
def LamB (T : LamT) : Prop := match T.own with
  | none => ∀ (q : Str) (cl : List (Str × Addr)) (doc pm cv ctv : Value), bindArgs (PySem.W.kdv_fn "<lambda>" q T.par (.expr T.body) T.scope cl .none doc pm cv ctv) ⟨[], []⟩ = pure []
  | some a => ∀ (q : Str) (cl : List (Str × Addr)) (t : Addr) (doc pm cv ctv : Value), ∃ k : Option (Array Value) → Sem (List (Str × Value)),
      bindArgs (PySem.W.kdv_fn "<lambda>" q T.par (.expr T.body) T.scope cl (.ref t) doc pm cv ctv) ⟨[], []⟩ = (seqItems? (.ref t) >>= k) ∧ ∀ v : Value, k (some #[v]) = pure [(a, v)]
/-- its names: globals, the maker's cells, its parameter (no name of the maker's) -/
structure LamS2 (N : List Str) (sc : Scope) (T : LamT) : Prop where
  kind : T.scope.kind = .function
  co : T.scope.isCoroutine = false
  gen : T.scope.isGenerator = false
  cell : ∀ y ∈ T.scope.names, y.2 ≠ .cell
  loc : ∀ y ∈ T.scope.names, y.2 = .local → y.1 ∉ N
  free : ∀ y ∈ T.scope.names, y.2 = .free → sc.names.lookup y.1 = some .cell ∨ sc.names.lookup y.1 = some .free
  par : ∀ a, T.own = some a → T.scope.names.lookup a = some .local
def lamS2B (N : List Str) (sc : Scope) (T : LamT) : Bool :=
  decide (T.scope.kind = .function) && !T.scope.isCoroutine && !T.scope.isGenerator && (match T.own with | none => true | some a => decide (T.scope.names.lookup a = some .local)) &&
    T.scope.names.all fun y => !decide (y.2 = .cell) && (!decide (y.2 = .local) || !decide (y.1 ∈ N)) && (!decide (y.2 = .free) || decide (sc.names.lookup y.1 = some .cell) || decide (sc.names.lookup y.1 = some .free))
theorem lamS2_by {N : List Str} {sc : Scope} {T : LamT} (h : lamS2B N sc T = true) : LamS2 N sc T := by
  unfold lamS2B at h
  simp only [Bool.and_eq_true, Bool.or_eq_true, Bool.not_eq_true', decide_eq_true_eq, decide_eq_false_iff_not, List.all_eq_true] at h
  obtain ⟨⟨⟨⟨h1, h2⟩, h3⟩, h5⟩, h4⟩ := h
  refine ⟨h1, h2, h3, fun y hy => (h4 y hy).1.1, fun y hy e => ?_, fun y hy e => ?_, fun a e => ?_⟩
  · rcases (h4 y hy).1.2 with z | z
    · exact absurd e z
    · exact z
  · rcases (h4 y hy).2 with (z | z) | z
    · exact absurd e z
    · exact .inl z
    · exact .inr z
  · rw [e] at h5
    exact of_decide_eq_true h5
theorem LamS2.has {X : Cx} {T : LamT} (L : LamS2 X.N X.env.scope T) (ok : X.Ok) : ∀ y ∈ T.scope.names, y.2 = .free → ∃ c, X.env.cells.lookup y.1 = some c := fun y hy e => (L.free y hy e).elim (fun z => ok.has _ (.inl z)) fun z => ok.has _ (.inr z)
/-- the maker's name for its lambdas, the cells that a lambda gets -/
abbrev lq (X : Cx) : Str := X.env.qual ++ "<lambda>"
abbrev lcl (X : Cx) (T : LamT) : List (Str × Addr) := cloFrom X.env.cells T.scope.names []
section
variable {X : Cx} {pins : List (Addr × Obj)} {σ : L2.St} {H : Hp} {s : Shared}
/-- the function object is laid and known -/
theorem fn_laid {f c' : Addr} {T : LamT} {dV doc pm ctv : Value} {h' : Heap} {t' : Nat} (I : Inv X pins σ H { s with heap := h', toks := t' }) (hf : f = h'.objs.size) :
    Inv X pins σ (upd H f (LamA f (lq X) (lcl X T) T c' dV)) { s with heap := h'.push (PySem.W.kdv_obj "<lambda>" (lq X) T.par (.expr T.body) T.scope (lcl X T) dV doc pm c' ctv), toks := t' } := by
  subst hf
  have hg : (h'.push (PySem.W.kdv_obj "<lambda>" (lq X) T.par (.expr T.body) T.scope (lcl X T) dV doc pm c' ctv)).get? h'.objs.size = some (PySem.W.kdv_obj "<lambda>" (lq X) T.par (.expr T.body) T.scope (lcl X T) dV doc pm c' ctv) := Heap.get?_push_size _ rfl
  have new : ObjOk X.prog X.w (upd H h'.objs.size (LamA h'.objs.size (lq X) (lcl X T) T c' dV)) (h'.push (PySem.W.kdv_obj "<lambda>" (lq X) T.par (.expr T.body) T.scope (lcl X T) dV doc pm c' ctv)) h'.objs.size (LamA h'.objs.size (lq X) (lcl X T) T c' dV) :=
    ⟨⟨doc, pm, ctv, hg⟩, ⟨_, hg⟩, fun h1 h2 ⟨d, p, c, e⟩ k => ⟨d, p, c, k _ e⟩⟩
  exact I.laid (s := { s with heap := h', toks := t' }) (t' := t') (fun b o e => Heap.get?_push_of_some _ e) (Nat.le_refl _) new
/-- the lambda's object is made, its defaults at dV -/
theorem tail_makeV {T : LamT} {dV : Value} {Tb : List (Addr × Str)} {c P : Addr} {pos : Pos} {E : Value → Shared → Prop} {Q : Value → Shared → Prop} (I : Inv X pins σ H s) (TB : TabB X.base X.mg c P) (hcode : X.env.code = .ref c)
    (hm : (P, lq X) ∈ Tb) (hu : ∀ p ∈ Tb, p.1 = P → p.2 = lq X) (hT : Tabs Tb H) (hfree : ∀ y ∈ T.scope.names, y.2 = .free → ∃ c, X.env.cells.lookup y.1 = some c)
    (h : ∀ (f c' : Addr) (H1 : Hp) (s' : Shared), Inv X pins σ H1 s' → ExtN H H1 → Tabs Tb H1 → H1 f = some (LamA f (lq X) (lcl X T) T c' dV) → H1 c' = some (CodeO c' (lq X)) → Q (.ref f) s') :
    wpAny (model X.prog X.w) X.A (makeTail "<lambda>" (lq X) T.par (.expr T.body) T.scope X.env dV .none none pos pos.line) Q E s := by
  obtain ⟨ps, hP, ht, ha⟩ := hT _ hm
  have bP : s.heap.BuiltinsAt X.mg P := TB.bm.keeps I.bk
  have hP' : s.heap.get? P = some { cls := .none, data := .fields ps } := I.hok P _ hP
  cases hc : codeAmong pos ps.toList with
  | none =>
    refine PySem.W.kdv_makeTail (mg := X.mg) (c := c) (P := P) (ps := ps) (closure_ok hfree) I.ok.glob (I.mod.glob.keeps I.bk) hcode (TB.code.keeps I.bk) hP' ht hc TB.gP bP fun c' ctv doc h' tk hx hge hlt hrec htb => ?_
    obtain ⟨c2, oc, vs, t, e2, hoc, hd, hv⟩ := hrec
    cases e2
    have hsz : s.heap.objs.size ≤ h'.objs.size := Nat.le_trans hge (Nat.le_of_lt hlt)
    have nC : H c' = none := I.hok.fresh hge
    have I1 := inv_table (t' := tk) (more := #[rawInt pos.line, rawInt pos.col, .ref c']) (h' := h') I hP hx htb hge ⟨oc, vs, t, hoc, hd, hv⟩
    have hE : ExtN H (upd (upd H P (.tbl (ps ++ #[rawInt pos.line, rawInt pos.col, .ref c']))) c' (CodeO c' (lq X))) := fun b o e n => by
      rw [upd_ne (ne_of_none e nC), upd_ne (fun z => n ps (Option.some.inj (e.symm.trans (by rw [z]; exact hP))))]
      exact e
    have n1 : h'.objs.size ≠ c' := Nat.ne_of_gt hlt
    have nF : (upd (upd H P (.tbl (ps ++ #[rawInt pos.line, rawInt pos.col, .ref c']))) c' (CodeO c' (lq X))) h'.objs.size = none := by
      have n2 : h'.objs.size ≠ P := Nat.ne_of_gt (Nat.lt_of_lt_of_le (Heap.lt_size hP') hsz)
      rw [upd_ne n1, upd_ne n2]
      exact I.hok.fresh hsz
    have I2 := fn_laid (T := T) (c' := c') (dV := dV) (doc := doc) (pm := (X.mg "__name__").getD .none) (ctv := ctv) I1 rfl
    have eL : (ps ++ #[rawInt pos.line, rawInt pos.col, .ref c']).toList = ps.toList ++ [rawInt pos.line, rawInt pos.col, .ref c'] := by simp
    have T1 : Tabs Tb (upd (upd H P (.tbl (ps ++ #[rawInt pos.line, rawInt pos.col, .ref c']))) c' (CodeO c' (lq X))) := fun p hp => by
      by_cases hb : p.1 = P
      · rw [hu p hp hb, hb]
        refine ⟨_, by rw [upd_ne (ne_of_none hP nC), upd_same], by rw [eL]; exact PySem.TriplesOk_snoc _ _ _ _ ht, fun p' cv hcv => ?_⟩
        rw [eL] at hcv
        rcases among_app _ ht hcv with z | z
        · obtain ⟨c0, e1, e2⟩ := ha p' cv z
          exact ⟨c0, e1, hE _ _ e2 codeO_ne⟩
        · exact ⟨c', z, upd_same⟩
      · obtain ⟨ps', a1, a2, a3⟩ := hT p hp
        refine ⟨ps', by rw [upd_ne (ne_of_none a1 nC), upd_ne hb]; exact a1, a2, fun p' cv hcv => ?_⟩
        obtain ⟨c0, e1, e2⟩ := a3 p' cv hcv
        exact ⟨c0, e1, hE _ _ e2 codeO_ne⟩
    have sN : ∀ b o, (upd (upd H P (.tbl (ps ++ #[rawInt pos.line, rawInt pos.col, .ref c']))) c' (CodeO c' (lq X))) b = some o → (upd (upd (upd H P (.tbl (ps ++ #[rawInt pos.line, rawInt pos.col, .ref c']))) c' (CodeO c' (lq X))) h'.objs.size (LamA h'.objs.size (lq X) (lcl X T) T c' dV)) b = some o := fun b o e => by
      rw [upd_ne (ne_of_none e nF)]
      exact e
    exact h _ c' _ _ I2 (fun b o e n => sN _ _ (hE b o e n)) (T1.ext sN) upd_same (sN _ _ upd_same)
  | some cv =>
    obtain ⟨c', e, hco⟩ := ha pos cv hc
    subst e
    refine PySem.W.kdv_makeTailHit (mg := X.mg) (c := c) (P := P) (ps := ps) (closure_ok hfree) I.ok.glob (I.mod.glob.keeps I.bk) hcode (TB.code.keeps I.bk) hP' ht hc bP fun ctv doc h' tk hx hsz => ?_
    have I1 : Inv X pins σ H { s with heap := h', toks := tk } := I.kept hx
    have I2 := fn_laid (T := T) (c' := c') (dV := dV) (doc := doc) (pm := (X.mg "__name__").getD .none) (ctv := ctv) I1 rfl
    have nF : H h'.objs.size = none := I.hok.fresh hsz
    have sN : ∀ b o, H b = some o → (upd H h'.objs.size (LamA h'.objs.size (lq X) (lcl X T) T c' dV)) b = some o := fun b o e => by
      rw [upd_ne (ne_of_none e nF)]
      exact e
    exact h _ c' _ _ I2 (ExtN.of sN) (hT.ext sN) upd_same (sN _ _ hco)
/-- the reading of a lambda: a new one stands there -/
def tLamV (Tb : List (Addr × Str)) (q : Str) (cl : List (Str × Addr)) (T : LamT) : TE := fun _ H Q => Tabs Tb H ∧ ∀ (H1 : Hp) (f : Addr), ExtN H H1 → Tabs Tb H1 → LamV q cl H1 f T → Q (.ref f) H1
/-- lambda: body -/
theorem pe_lamV0 {T : LamT} {Tb : List (Addr × Str)} {c P : Addr} {pos : Pos} (TB : TabB X.base X.mg c P) (hcode : X.env.code = .ref c) (hm : (P, lq X) ∈ Tb) (hu : ∀ p ∈ Tb, p.1 = P → p.2 = lq X) (L : LamS2 X.N X.env.scope T)
    (hw : T.own = none) (hdef : defaultsOf T.par X.env = ([], []) := by rfl) : PE X (.Lambda T.par T.body T.scope pos) (tLamV Tb (lq X) (lcl X T) T) := by
  refine ⟨fun pins s σ H Q I h => ?_⟩
  obtain ⟨hT, h⟩ := h
  refine PySem.W.kla_eval hdef ?_
  rw [makeFunction_eq]
  simp only [List.zip_nil_right, List.filterMap_nil, List.isEmpty_nil, if_true, pure_bind]
  exact tail_makeV I TB hcode hm hu hT (L.has I.ok) fun f c' H1 s' I1 e1 T1 h1 h2 => ⟨.ref f, H1, I1, rfl, h H1 f e1 T1 ⟨c', .none, h1, h2, .inl ⟨hw, rfl⟩⟩⟩
/-- lambda a=0: body -/
theorem pe_lamD0 {T : LamT} {Tb : List (Addr × Str)} {c P : Addr} {pos p0 : Pos} {j : Nat} {a : Str} (TB : TabB X.base X.mg c P) (hcode : X.env.code = .ref c) (hm : (P, lq X) ∈ Tb) (hu : ∀ p ∈ Tb, p.1 = P → p.2 = lq X) (L : LamS2 X.N X.env.scope T)
    (hw : T.own = some a) (hd : T.par.defaults = [.Constant (.int 0) j p0]) (hk : T.par.kw_defaults = []) : PE X (.Lambda T.par T.body T.scope pos) (tLamV Tb (lq X) (lcl X T) T) := by
  refine ⟨fun pins s σ H Q I h => ?_⟩
  obtain ⟨hT, h⟩ := h
  refine PySem.W.kdv_lam (by rw [hd]; rfl) hk ?_
  rw [hd]
  have p0 := (pe_int (X := X) (i := 0) (j := j) (pos := p0)).run pins s σ H (fun v H1 => v = .int 0 ∧ H1 = H) I ⟨rfl, rfl⟩
  refine PySem.W.kdv_all1 (wpAny_mono p0 (fun v s1 ⟨x, H1, I1, r1, ex, eH⟩ => PySem.W.kdv_all0 ?_) fun _ _ z => z)
  subst ex eH
  rw [makeFunction_eq]
  simp only [List.zip_nil_right, List.filterMap_nil, List.isEmpty_nil, List.isEmpty_cons, if_true, pure_bind, Bool.false_eq_true, if_false]
  refine wpAny_bind (wpAny_newTextTuple ?_)
  have sz : s1.heap.objs.size ≤ s1.heap.objs.size := Nat.le_refl _
  have hg : (s1.heap.push (PySem.W.kdv_tup [v])).get? s1.heap.objs.size = some (PySem.W.kdv_tup [v]) := Heap.get?_push_size _ rfl
  have I2 : Inv X pins σ (upd H1 s1.heap.objs.size (.tup [.int 0])) { s1 with heap := s1.heap.push (PySem.W.kdv_tup [v]), toks := s1.toks } :=
    I1.laid (t' := s1.toks) (fun b o e => Heap.get?_push_of_some _ e) sz ⟨by show 1 ≤ sizeLine; decide, [v], .cons r1 .nil, ⟨_, hg, rfl, _, rfl⟩⟩
  have nF : H1 s1.heap.objs.size = none := I1.hok.fresh sz
  have sN : ∀ b o, H1 b = some o → (upd H1 s1.heap.objs.size (.tup [.int 0])) b = some o := fun b o e => by
    rw [upd_ne (ne_of_none e nF)]
    exact e
  exact tail_makeV I2 TB hcode hm hu (hT.ext sN) (L.has I.ok) fun f c' H3 s' I3 e3 T3 h1 h2 => ⟨.ref f, H3, I3, rfl, h H3 f ((ExtN.of sN).trans e3) T3 ⟨c', _, h1, h2, .inr ⟨a, _, hw, rfl, e3 _ _ upd_same (fun _ z => nomatch z)⟩⟩⟩
theorem pe_lamV {par : Arguments} {body : Expr} {scope : Scope} {Tb : List (Addr × Str)} {c P : Addr} {pos : Pos} (TB : TabB X.base X.mg c P) (hcode : X.env.code = .ref c) (hm : (P, lq X) ∈ Tb) (hu : ∀ p ∈ Tb, p.1 = P → p.2 = lq X) (L : LamS2 X.N X.env.scope ⟨par, body, scope, none⟩)
    (hdef : defaultsOf par X.env = ([], []) := by rfl) : PE X (.Lambda par body scope pos) (tLamV Tb (lq X) (lcl X ⟨par, body, scope, none⟩) ⟨par, body, scope, none⟩) := pe_lamV0 (T := ⟨par, body, scope, none⟩) TB hcode hm hu L rfl hdef
theorem pe_lamD {par : Arguments} {body : Expr} {scope : Scope} {Tb : List (Addr × Str)} {c P : Addr} {pos p0 : Pos} {j : Nat} {a : Str} (TB : TabB X.base X.mg c P) (hcode : X.env.code = .ref c) (hm : (P, lq X) ∈ Tb) (hu : ∀ p ∈ Tb, p.1 = P → p.2 = lq X) (L : LamS2 X.N X.env.scope ⟨par, body, scope, some a⟩)
    (hd : par.defaults = [.Constant (.int 0) j p0] := by rfl) (hk : par.kw_defaults = [] := by rfl) : PE X (.Lambda par body scope pos) (tLamV Tb (lq X) (lcl X ⟨par, body, scope, some a⟩) ⟨par, body, scope, some a⟩) := pe_lamD0 (T := ⟨par, body, scope, some a⟩) TB hcode hm hu L rfl hd hk
end
end OwnR

set_option Elab.async false
set_option linter.all false
set_option maxRecDepth 100000
set_option maxHeartbeats 2000000
/-! Lambdas that stand as values: called, and handed to a def that calls them. -/
namespace OwnR
open PySem PySem.Spec PyProof.Rows L2 LamX
section
variable {X : Cx} {pins : List (Addr × Obj)} {σ : L2.St} {H HZ : Hp} {s s1 : Shared}
/-- the lambda's context, entered at s1 from the frames outer; its maker stood so at s -/
theorem lam_startV {A : Around} {outer : List Env} {E : XK} {T : LamT} {f c' : Addr} {h₁ : Heap} {tk : Nat} {bs : List (Str × Value)} (I : Inv X pins σ H s) (L : LamS2 X.N X.env.scope T) (e0 : Env0 X.prog X.w X.K X.mg X.base A outer s1 HZ) (hd : A.handled = none)
    (un : Un (frs X.stack) [] H HZ s.heap s1.heap) (ns : h₁.Ns s1.heap.objs.size fun y => bs.reverse.lookup y) (kp : ∀ b o, s1.heap.get? b = some o → h₁.get? b = some o) :
    Inv (lamCx X A outer s1 HZ E T.scope f c') [] σ HZ { s1 with heap := h₁, toks := tk } := by
  have hasC := L.has I.ok
  have up : ∀ {y c}, (lcl X T).lookup y = some c → X.env.cells.lookup y = some c := fun {y c} e => by
    rcases cloFrom_mem (PySem.mem_of_lookup e) with m | ⟨g1, g2⟩
    · exact absurd m (by simp)
    · obtain ⟨d, hcd⟩ := hasC _ g1 rfl
      have hcd : X.env.cells.lookup y = some d := hcd
      rw [hcd] at g2
      rw [hcd, g2]
      rfl
  have down : ∀ {y}, T.scope.names.lookup y = some .free → ∃ c, (lcl X T).lookup y = some c := fun {y} hl => mem_lookup (cloFrom_has (cells := X.env.cells) (acc := []) (show (y, NameKind.free) ∈ T.scope.names from PySem.mem_of_lookup hl))
  have stays : ∀ {c : Addr} {v : Option Value}, H c = none → s.heap.IsCell c v → h₁.IsCell c v := fun {c v} n ⟨o, ho, hdt⟩ =>
    let ⟨sl, q⟩ := un.any ho n (by simp)
    ⟨{ o with slots := sl }, kp _ _ q, hdt⟩
  have no : ∀ b : Addr, ¬ b ∈ (lamCx X A outer s1 HZ E T.scope f c').ex := fun b z => nomatch (show b ∈ ([] : List Addr) from z)
  exact
    { ok :=
        { mod := e0.mod, kind := L.kind, glob := rfl, blt := rfl, above := Nat.le_refl _
          inj := fun y z c e1 e2 => I.ok.inj y z c (up e1) (up e2)
          has := fun y hy => by
            rcases (show T.scope.names.lookup y = some .cell ∨ T.scope.names.lookup y = some .free from hy) with q | q
            · exact absurd rfl (L.cell _ (PySem.mem_of_lookup q))
            · exact down q
          cab := fun y c z => nomatch (show false = true from z)
          hd := fun _ => hd, frames := Around.frames_deeper e0.frames, stk := .inr ⟨rfl, rfl⟩
          exf := fun b z => absurd z (no b), bs := e0.bs, bsz := e0.bsz, noex := fun b _ _ => no b, exfs := fun b z => absurd z (no b), funs := e0.funs, frf := e0.frf }
      os := rfl, bare := e0.bare, base := Un.kept kp
      loc := ⟨_, ns, fun i y v e1 e2 e3 => by
        rcases (show Vis T.scope y from e3) with k | k | k
        · exact absurd (List.mem_of_getElem? (show X.N[i]? = some y from e1)) (L.loc _ (PySem.mem_of_lookup k) rfl)
        · exact absurd rfl (L.cell _ (PySem.mem_of_lookup k))
        · obtain ⟨m, hn, hl⟩ := I.loc
          have vis := L.free _ (PySem.mem_of_lookup k) rfl
          obtain ⟨u, r, q⟩ := hl i y v e1 e2 (vis.elim (fun z => .inr (.inl z)) fun z => .inr (.inr z))
          obtain ⟨c2, h2⟩ := down k
          refine ⟨u, r, .inr ⟨.inr k, c2, h2, ?_⟩⟩
          rcases q with ⟨k', _⟩ | ⟨_, c3, e', z⟩
          · have k' : X.env.scope.names.lookup y = some .local := k'
            rcases vis with k2 | k2
            · rw [show X.env.scope.names.lookup y = _ from k2] at k'; cases k'
            · rw [show X.env.scope.names.lookup y = _ from k2] at k'; cases k'
          · have e'' := e'.symm.trans (up h2)
            cases e''
            exact stays (I.freeC y _ e') z⟩
      cell := fun y c e => let ⟨w', z⟩ := I.cell y c (up e); ⟨w', stays (I.freeC y c (up e)) z⟩
      free := e0.hok.fresh (Nat.le_refl _)
      freeC := fun y c e => by
        obtain ⟨v, o, ho, _⟩ := I.cell y c (up e)
        exact un.free c o ho (I.freeC y c (up e)) (by simp)
      pin := fun q hq => nomatch (show q ∈ ([] : List (Addr × Obj)) from hq)
      hok := e0.hok.kept kp, len := I.len }
/-- what the lambda's body reads, in its own context -/
def LamPE (X : Cx) (T : LamT) (k : Nat) (t : XK → TE) : Prop := ∀ (A : Around) (outer : List Env) (s : Shared) (H : Hp) (E : XK) (f c' : Addr), Room k (A.deeper (lamEnv X T.scope s.heap.objs.size f c')) → PE (lamCx X A outer s H E T.scope f c') T.body (t E)
/-- f() at s1; its maker stood so at s -/
theorem lam_run {A : Around} {outer : List Env} {E : XK} {T : LamT} {f : Addr} {k : Nat} {t : XK → TE} {Q : VK} (I : Inv X pins σ H s) (L : LamS2 X.N X.env.scope T) (B : LamB T) (e0 : Env0 X.prog X.w X.K X.mg X.base A outer s1 HZ) (hr : Room (k + 1) A)
    (un : Un (frs X.stack) [] H HZ s.heap s1.heap) (hb : LamPE X T k t) (hv : LamV (lq X) (lcl X T) HZ f T) (h : t E σ HZ Q) :
    codeAny (model X.prog X.w) A (.call (.ref f) ⟨[], []⟩) (L2.CR (L2.CX X.prog X.w) outer X.prog X.w HZ s1 Q E) s1 := by
  obtain ⟨c', dV, hf, hc, hD⟩ := hv
  obtain ⟨⟨doc, pm, ctv, of⟩, _, _⟩ := e0.hok f _ hf
  obtain ⟨⟨oc, vs, tq, hoc, hdc, hvc⟩, _, _⟩ := e0.hok c' _ hc
  have lim : s1.heap.NoLimit := e0.mod.nolimit.keeps fun b o e => (e0.bs b o e).1
  refine PySem.W.kla_callFunE hr.depth of rfl L.co L.gen rfl ⟨c', oc, vs, tq, rfl, hoc, hdc, hvc⟩ ?_
  have go : ∀ (bs : List (Str × Value)), (∀ y ∈ bs, T.scope.names.lookup y.1 = some .local) →
      wpAny (model X.prog X.w) A.in1 (newFunctionEnv T.scope mainGlobals (lcl X T) bs (lq X ++ ".<locals>.") (some f) (.ref c') none builtinsNs)
        (fun env s₂ => s₂.heap.NoLimit ∧ codeAny (model X.prog X.w) A (.expr T.body env) (L2.CR (L2.CX X.prog X.w) outer X.prog X.w HZ s1 Q E) s₂) (fun e s' => L2.CR (L2.CX X.prog X.w) outer X.prog X.w HZ s1 Q E (.error e) s') s1 := fun bs hbs => by
    refine wpAny_newFunctionEnv L.cell hbs (fun h₁ hns hsb => ⟨lim.fresh _ hsb, ?_⟩) L.kind
    show codeAny _ _ (.expr T.body (lamEnv X T.scope s1.heap.objs.size f c')) _ _
    have kp : ∀ b o, s1.heap.get? b = some o → h₁.get? b = some o := fun b o e => hsb.extBut b o (Nat.ne_of_lt (Heap.lt_size e)) (Heap.get?_push_of_some _ e)
    have J := lam_startV (E := E) (f := f) (c' := c') (tk := s1.toks + bs.length) I L e0 hr.hd un hns kp
    exact PySem.W.kla_codeExpr (wpAny_mono ((hb A outer s1 HZ E f c' (hr.deeper _)).run [] _ _ HZ Q J h) (fun v s' hq => let ⟨w', H', J', rv, q⟩ := hq; ⟨w', H', J'.os, J'.bare, J'.base, J'.hok, rv, q⟩) fun e s' hq => hq)
  unfold LamB at B
  rcases hD with ⟨ho, rfl⟩ | ⟨a, ta, ho, rfl, hta⟩
  · rw [ho] at B
    rw [B]
    exact wpAny_pure (go [] fun y hy => nomatch hy)
  · rw [ho] at B
    obtain ⟨k', b1, b2⟩ := B (lq X) (lcl X T) ta doc pm (.ref c') ctv
    obtain ⟨_, its, ri, oT, hoT, hcl, n, hdT⟩ := (show ObjOk X.prog X.w HZ s1.heap ta (.tup [.int 0]) from e0.hok ta _ hta)
    cases ri with
    | @cons _ v _ _ rv rn =>
      cases rn
      refine BindsTo.of_defaults (fd := PySem.W.kdv_fn "<lambda>" (lq X) T.par (.expr T.body) T.scope (lcl X T) (.ref ta) doc pm (.ref c') ctv) (binds := [(a, v)]) rfl hoT hdT b1 (b2 v) _ _ _ _ ?_
      refine go [(a, v)] fun y hy => ?_
      rw [List.mem_singleton.mp hy]
      exact L.par a ho
end
end OwnR
namespace OwnR
open PySem PySem.Spec PyProof.Rows L2 LamX
/-- the def that calls what it got (a: its parameter); TT: what it makes of the lambda's reading -/
def GivesV (P : Program) (w : World) (K : PySem.W.Frag) (mg : Str → Option Value) (base : Heap) (A : Around) (stack : List Env) (Ng : List Str) (x : Str) (sg : Scope) (g : Addr) (cdg : Value) (bg : List Stmt) (a : Str) (TT : (XK → Hp → VK → Prop) → Hp → VK → Prop) : Prop :=
  ∀ (f : Addr) (s : Shared) (H : Hp) (Q : VK) (Held : Hp → Prop) (tl : XK → Hp → VK → Prop),
    (∀ (W : WX) (pn : List (Addr × Obj)) (xe : Value → Shared → Prop) (E : XK) (p1 p2 : Pos), Takes ((cxOf L2.CX0 P w K mg base Ng x sg g cdg A stack s H L2.E0).tr pn xe) W → (∀ cls d σ' H', σ'.length = Ng.length → E cls d H' → W cls d σ' H') →
      PE ((cxOf L2.CX0 P w K mg base Ng x sg g cdg A stack s H L2.E0).tr pn xe) (.Call (.Name a p1) [] [] p2) (fun σZ HZ Q => σZ[0]? = some (some (.ref f)) ∧ Held HZ ∧ tl E HZ Q)) → Held H → TT tl H Q →
    ∃ t, PSs (cxOf L2.CX0 P w K mg base Ng x sg g cdg A stack s H L2.E0).nox bg t ∧ t { nx := fun _ H' => Q .non H', rt := Q } (L2.start Ng [.ref f]) H
/-- what is told of the def that calls -/
structure Teller (K : PySem.W.Frag) (mg : Str → Option Value) (x a : Str) (g : Addr) (Ng : List Str) (bg : List Stmt) (sg : Scope) (cdv : Value) : Prop where
  mgx : mg x = some (.ref g)
  k : PySem.W.keepIn K (.ref g) = true
  lk : ∃ (oc : Value) (od : Option Addr) (pg : Arguments) (dV kV doc pm ct : Value) (an : Option Addr) (osl : Array (Option Value)), K.lookup g = some ⟨oc, od, .func (PySem.W.fnOf x x pg bg sg dV kV doc pm an cdv ct), osl⟩ ∧ L2.Binds K (PySem.W.fnOf x x pg bg sg dV kV doc pm an cdv ct) [a] []
  cd : PySem.W.codeIn K cdv x = true
  sc : FnScope Ng [a] sg
  n0 : Ng[0]? = some a
  vis : Vis sg a
section
variable {X : Cx} {pins : List (Addr × Obj)} {σ : L2.St} {H : Hp} {s : Shared}
/-- told(f), called where the maker stands at s -/
theorem told_run {x a : Str} {g f : Addr} {Ng : List Str} {bg : List Stmt} {sg : Scope} {cdv : Value} {k : Nat} {T : LamT} {t : XK → TE} {TT : (XK → Hp → VK → Prop) → Hp → VK → Prop} {Q : VK} (I : Inv X pins σ H s) (W : Teller X.K X.mg x a g Ng bg sg cdv)
    (hG : GivesV X.prog X.w X.K X.mg X.base X.A X.stack Ng x sg g cdv bg a TT) (hr : Room (k + 2) X.A) (L : LamS2 X.N X.env.scope T) (B : LamB T) (hb : LamPE X T k t) (hv : LamV (lq X) (lcl X T) H f T) (h : TT (fun E H' Q' => t E σ H' Q') H Q)
    (hd : (a == ("__debug__" : Str)) = false) (hcd : (a == ("__classdict__" : Str)) = false) :
    codeAny (model X.prog X.w) X.A (.call (.ref g) ⟨[.ref f], []⟩) (L2.CR L2.CX0 X.stack X.prog X.w H s Q L2.E0) s := by
  obtain ⟨oc, od, pg, dV, kV, doc, pm, ct, an, osl, lk, hbind⟩ := W.lk
  refine run_ofS (N := Ng) (ps := [a]) (us := [.ref f]) (vs := [.ref f]) lk W.cd W.sc hr I.env0 (hbind s [.ref f] I.kIn rfl) (.cons rfl .nil) rfl fun hr' => ?_
  have act : ∀ (Wx : WX) (pn : List (Addr × Obj)) (xe : Value → Shared → Prop) (E : XK) (p1 p2 : Pos), Takes ((cxOf L2.CX0 X.prog X.w X.K X.mg X.base Ng x sg g cdv X.A X.stack s H L2.E0).tr pn xe) Wx → (∀ cls d σ' H', σ'.length = Ng.length → E cls d H' → Wx cls d σ' H') →
      PE ((cxOf L2.CX0 X.prog X.w X.K X.mg X.base Ng x sg g cdv X.A X.stack s H L2.E0).tr pn xe) (.Call (.Name a p1) [] [] p2) (fun σZ HZ Q => σZ[0]? = some (some (.ref f)) ∧ LamV (lq X) (lcl X T) HZ f T ∧ t E σ HZ Q) := by
    intro Wx pn xe E p1 p2 tk hW
    refine ⟨fun pinsZ sZ σZ HZ Q IZ hh => ?_⟩
    obtain ⟨hs, hvZ, ht⟩ := hh
    refine wpAny_Call_Name_kw (thn ((pe_var (pos := p1) (i := 0) W.n0 W.vis hd hcd).run pinsZ sZ σZ HZ (fun v H1 => v = .ref f ∧ H1 = HZ) IZ ⟨.ref f, hs, rfl, rfl⟩) fun u s2 ⟨v, H2, I2, r2, ev, eH⟩ => ?_)
    subst ev eH
    obtain rfl : u = Value.ref f := r2
    obtain ⟨c', dV', hf, _⟩ := id hvZ
    obtain ⟨⟨doc', pm', ctv', of⟩, _, _⟩ := I2.hok f _ hf
    refine PySem.W.callWith_F0 ⟨_, _, _, _, of⟩ ?_
    have rc := lam_run (E := E) (Q := Q) I L B I2.env0 hr' I2.base hb hvZ ht
    refine wpAny_call (codeAny_mono rc fun r s' hq => ?_)
    cases r with
    | error e => exact tk e s' (XE.of_call I2 (fun cls d H' h => hW cls d σZ H' I2.len h) hq)
    | ok fl =>
      cases fl with
      | ret u => exact I2.after hq
      | next => exact False.elim hq
      | brk => exact False.elim hq
      | cont => exact False.elim hq
  obtain ⟨t', ht', hq'⟩ := hG f s H Q (fun HZ => LamV (lq X) (lcl X T) HZ f T) (fun E H' Q' => t E σ H' Q') act hv h
  exact ⟨t', ht'.nox, hq'⟩
/-- told(e), e a lambda's value -/
def tTold (X : Cx) (k : Nat) (TT : (XK → Hp → VK → Prop) → Hp → VK → Prop) (te : TE) : TE := fun σ H Q => te σ H fun y H1 => ∃ (f : Addr) (T : LamT) (t : XK → TE), y = .ref f ∧ LamS2 X.N X.env.scope T ∧ LamB T ∧ LamPE X T k t ∧ LamV (lq X) (lcl X T) H1 f T ∧ TT (fun E H' Q' => t E σ H' Q') H1 Q
theorem pe_told {x a : Str} {g : Addr} {Ng : List Str} {bg : List Stmt} {sg : Scope} {cdv : Value} {k : Nat} {TT : (XK → Hp → VK → Prop) → Hp → VK → Prop} {e : Expr} {te : TE} {p pos : Pos} (W : Teller X.K X.mg x a g Ng bg sg cdv) (hg : Gl X x)
    (hG : GivesV X.prog X.w X.K X.mg X.base X.A X.stack Ng x sg g cdv bg a TT) (hr : Room (k + 2) X.A) (he : PE X e te) (hdb : (x == ("__debug__" : Str)) = false := by decide) (hd : (a == ("__debug__" : Str)) = false := by decide) (hcd : (a == ("__classdict__" : Str)) = false := by decide)
    (h1 : starEach [e] X.env = (false, eval e X.env) :: starEach [] X.env := by rfl) (h2 : (backTo pos (starEach [] X.env)).any (·.1) = false := by rfl) :
    PE X (.Call (.Name x p) [e] [] pos) (tTold X k TT te) := by
  refine ⟨fun pins s σ H Q I h => ?_⟩
  have ha : PA X [e] (tCons te tNil) := pa_cons he pa_nil h1
  refine wpAny_Call_Name_kw (ld_glob I hg W.mgx ?_ hdb)
  refine PySem.W.callWith_K (h₀ := X.base) I.ok.mod.kin W.k (thn (ha.run pos pins s σ H (fun vs H1 => ∃ (f : Addr) (T : LamT) (t : XK → TE), vs = [.ref f] ∧ LamS2 X.N X.env.scope T ∧ LamB T ∧ LamPE X T k t ∧ LamV (lq X) (lcl X T) H1 f T ∧ TT (fun E H' Q' => t E σ H' Q') H1 Q) I ?_) fun us s1 hs => ?_) h1 h2
  · show te σ H _
    have key : ∀ (Q1 Q2 : VK), Q1 = Q2 → te σ H Q1 → te σ H Q2 := fun _ _ z y => z ▸ y
    refine key _ _ (funext fun y => funext fun H1 => propext ⟨fun ⟨f, T, t, e, r⟩ => ⟨f, T, t, by rw [e], r⟩, fun ⟨f, T, t, e, r⟩ => ⟨f, T, t, by injection e, r⟩⟩) h
  · obtain ⟨vs, H1, I1, r, f, T, t, rfl, L, B, hb, hv, hT⟩ := hs
    obtain ⟨u, rfl, ru⟩ := r.one
    obtain rfl : u = Value.ref f := ru
    refine ⟨I1.kIn, wpAny_call (codeAny_mono (told_run I1 W hG hr L B hb hv hT hd hcd) fun r s2 hq => ?_)⟩
    cases r with
    | error e => exact (show False from hq).elim
    | ok fl =>
      cases fl with
      | ret u => exact I1.after hq
      | next => exact False.elim hq
      | brk => exact False.elim hq
      | cont => exact False.elim hq
end
end OwnR

set_option Elab.async false
set_option linter.all false
set_option maxRecDepth 100000
set_option maxHeartbeats 2000000
/-! Lambdas that stand as values, called away from where they were made. -/
namespace OwnR
open PySem PySem.Spec PyProof.Rows L2 LamX
/-- what the lambdas of X's def may look up, as it stands at s1 -/
structure Mkr (X : Cx) (σ : L2.St) (HZ : Hp) (s1 : Shared) : Prop where
  ok : X.Ok
  len : σ.length = X.N.length
  cell : ∀ y c, X.env.cells.lookup y = some c → ∃ v, s1.heap.IsCell c v
  freeC : ∀ y c, X.env.cells.lookup y = some c → HZ c = none
  loc : ∀ (i : Nat) (y : Str) (v : V), X.N[i]? = some y → σ[i]? = some (some v) → (X.env.scope.names.lookup y = some .cell ∨ X.env.scope.names.lookup y = some .free) → ∃ u c, RelV v u ∧ X.env.cells.lookup y = some c ∧ s1.heap.IsCell c (some u)
section
variable {X : Cx} {pins : List (Addr × Obj)} {σ : L2.St} {H HZ : Hp} {s s1 : Shared}
theorem cell_un {fs ch : List Addr} {c : Addr} {v : Option Value} (un : Un fs ch H HZ s.heap s1.heap) (hn : H c = none) (hc : c ∉ ch) (h : s.heap.IsCell c v) : s1.heap.IsCell c v :=
  let ⟨o, ho, hd⟩ := h
  let ⟨sl, q⟩ := un.any ho hn hc
  ⟨{ o with slots := sl }, q, hd⟩
theorem Mkr.of (I : Inv X pins σ H s) : Mkr X σ H s where
  ok := I.ok
  len := I.len
  cell := I.cell
  freeC := I.freeC
  loc := fun i y v e1 e2 e3 => by
    obtain ⟨m, hn, hl⟩ := I.loc
    obtain ⟨u, r, q⟩ := hl i y v e1 e2 (e3.elim (fun z => .inr (.inl z)) fun z => .inr (.inr z))
    rcases q with ⟨k, _⟩ | ⟨_, c, e, z⟩
    · have k : X.env.scope.names.lookup y = some .local := k
      rcases e3 with k2 | k2
      · rw [k2] at k; cases k
      · rw [k2] at k; cases k
    · exact ⟨u, c, r, e, z⟩
theorem Mkr.un {fs ch : List Addr} (M : Mkr X σ H s) (un : Un fs ch H HZ s.heap s1.heap) (hch : ∀ b ∈ ch, ∀ y c, X.env.cells.lookup y = some c → c ≠ b) : Mkr X σ HZ s1 := by
  have no : ∀ {y c}, X.env.cells.lookup y = some c → c ∉ ch := fun e z => hch _ z _ _ e rfl
  refine ⟨M.ok, M.len, fun y c e => ?_, fun y c e => ?_, fun i y v e1 e2 e3 => ?_⟩
  · obtain ⟨v, z⟩ := M.cell y c e
    exact ⟨v, cell_un un (M.freeC y c e) (no e) z⟩
  · obtain ⟨v, o, ho, _⟩ := M.cell y c e
    exact un.free c o ho (M.freeC y c e) (no e)
  · obtain ⟨u, c, r, e, z⟩ := M.loc i y v e1 e2 e3
    exact ⟨u, c, r, e, cell_un un (M.freeC y c e) (no e) z⟩
/-- the lambda's context, entered at s1 from the frames outer -/
theorem lam_startM {A : Around} {outer : List Env} {E : XK} {T : LamT} {f c' : Addr} {h₁ : Heap} {tk : Nat} {bs : List (Str × Value)} (M : Mkr X σ HZ s1) (L : LamS2 X.N X.env.scope T) (e0 : Env0 X.prog X.w X.K X.mg X.base A outer s1 HZ) (hd : A.handled = none)
    (ns : h₁.Ns s1.heap.objs.size fun y => bs.reverse.lookup y) (kp : ∀ b o, s1.heap.get? b = some o → h₁.get? b = some o) :
    Inv (lamCx X A outer s1 HZ E T.scope f c') [] σ HZ { s1 with heap := h₁, toks := tk } := by
  have hasC := L.has M.ok
  have up : ∀ {y c}, (lcl X T).lookup y = some c → X.env.cells.lookup y = some c := fun {y c} e => by
    rcases cloFrom_mem (PySem.mem_of_lookup e) with m | ⟨g1, g2⟩
    · exact absurd m (by simp)
    · obtain ⟨d, hcd⟩ := hasC _ g1 rfl
      have hcd : X.env.cells.lookup y = some d := hcd
      rw [hcd] at g2
      rw [hcd, g2]
      rfl
  have down : ∀ {y}, T.scope.names.lookup y = some .free → ∃ c, (lcl X T).lookup y = some c := fun {y} hl => mem_lookup (cloFrom_has (cells := X.env.cells) (acc := []) (show (y, NameKind.free) ∈ T.scope.names from PySem.mem_of_lookup hl))
  have stays : ∀ {c : Addr} {v : Option Value}, s1.heap.IsCell c v → h₁.IsCell c v := fun ⟨o, ho, hdt⟩ => ⟨o, kp _ _ ho, hdt⟩
  have no : ∀ b : Addr, ¬ b ∈ (lamCx X A outer s1 HZ E T.scope f c').ex := fun b z => nomatch (show b ∈ ([] : List Addr) from z)
  exact
    { ok :=
        { mod := e0.mod, kind := L.kind, glob := rfl, blt := rfl, above := Nat.le_refl _
          inj := fun y z c e1 e2 => M.ok.inj y z c (up e1) (up e2)
          has := fun y hy => by
            rcases (show T.scope.names.lookup y = some .cell ∨ T.scope.names.lookup y = some .free from hy) with q | q
            · exact absurd rfl (L.cell _ (PySem.mem_of_lookup q))
            · exact down q
          cab := fun y c z => nomatch (show false = true from z)
          hd := fun _ => hd, frames := Around.frames_deeper e0.frames, stk := .inr ⟨rfl, rfl⟩
          exf := fun b z => absurd z (no b), bs := e0.bs, bsz := e0.bsz, noex := fun b _ _ => no b, exfs := fun b z => absurd z (no b), funs := e0.funs, frf := e0.frf }
      os := rfl, bare := e0.bare, base := Un.kept kp
      loc := ⟨_, ns, fun i y v e1 e2 e3 => by
        rcases (show Vis T.scope y from e3) with k | k | k
        · exact absurd (List.mem_of_getElem? (show X.N[i]? = some y from e1)) (L.loc _ (PySem.mem_of_lookup k) rfl)
        · exact absurd rfl (L.cell _ (PySem.mem_of_lookup k))
        · have vis := L.free _ (PySem.mem_of_lookup k) rfl
          obtain ⟨u, c, r, e', z⟩ := M.loc i y v e1 e2 vis
          obtain ⟨c2, h2⟩ := down k
          have e'' := e'.symm.trans (up h2)
          cases e''
          exact ⟨u, r, .inr ⟨.inr k, c, h2, stays z⟩⟩⟩
      cell := fun y c e => let ⟨w', z⟩ := M.cell y c (up e); ⟨w', stays z⟩
      free := e0.hok.fresh (Nat.le_refl _)
      freeC := fun y c e => M.freeC y c (up e)
      pin := fun q hq => nomatch (show q ∈ ([] : List (Addr × Obj)) from hq)
      hok := e0.hok.kept kp, len := M.len }
/-- f() at s1 -/
theorem lam_runM {A : Around} {outer : List Env} {E : XK} {T : LamT} {f : Addr} {k : Nat} {t : XK → TE} {Q : VK} (M : Mkr X σ HZ s1) (L : LamS2 X.N X.env.scope T) (B : LamB T) (e0 : Env0 X.prog X.w X.K X.mg X.base A outer s1 HZ) (hr : Room (k + 1) A)
    (hb : LamPE X T k t) (hv : LamV (lq X) (lcl X T) HZ f T) (h : t E σ HZ Q) :
    codeAny (model X.prog X.w) A (.call (.ref f) ⟨[], []⟩) (L2.CR (L2.CX X.prog X.w) outer X.prog X.w HZ s1 Q E) s1 := by
  obtain ⟨c', dV, hf, hc, hD⟩ := hv
  obtain ⟨⟨doc, pm, ctv, of⟩, _, _⟩ := e0.hok f _ hf
  obtain ⟨⟨oc, vs, tq, hoc, hdc, hvc⟩, _, _⟩ := e0.hok c' _ hc
  have lim : s1.heap.NoLimit := e0.mod.nolimit.keeps fun b o e => (e0.bs b o e).1
  refine PySem.W.kla_callFunE hr.depth of rfl L.co L.gen rfl ⟨c', oc, vs, tq, rfl, hoc, hdc, hvc⟩ ?_
  have go : ∀ (bs : List (Str × Value)), (∀ y ∈ bs, T.scope.names.lookup y.1 = some .local) →
      wpAny (model X.prog X.w) A.in1 (newFunctionEnv T.scope mainGlobals (lcl X T) bs (lq X ++ ".<locals>.") (some f) (.ref c') none builtinsNs)
        (fun env s₂ => s₂.heap.NoLimit ∧ codeAny (model X.prog X.w) A (.expr T.body env) (L2.CR (L2.CX X.prog X.w) outer X.prog X.w HZ s1 Q E) s₂) (fun e s' => L2.CR (L2.CX X.prog X.w) outer X.prog X.w HZ s1 Q E (.error e) s') s1 := fun bs hbs => by
    refine wpAny_newFunctionEnv L.cell hbs (fun h₁ hns hsb => ⟨lim.fresh _ hsb, ?_⟩) L.kind
    show codeAny _ _ (.expr T.body (lamEnv X T.scope s1.heap.objs.size f c')) _ _
    have kp : ∀ b o, s1.heap.get? b = some o → h₁.get? b = some o := fun b o e => hsb.extBut b o (Nat.ne_of_lt (Heap.lt_size e)) (Heap.get?_push_of_some _ e)
    have J := lam_startM (E := E) (f := f) (c' := c') (tk := s1.toks + bs.length) M L e0 hr.hd hns kp
    exact PySem.W.kla_codeExpr (wpAny_mono ((hb A outer s1 HZ E f c' (hr.deeper _)).run [] _ _ HZ Q J h) (fun v s' hq => let ⟨w', H', J', rv, q⟩ := hq; ⟨w', H', J'.os, J'.bare, J'.base, J'.hok, rv, q⟩) fun e s' hq => hq)
  unfold LamB at B
  rcases hD with ⟨ho, rfl⟩ | ⟨a, ta, ho, rfl, hta⟩
  · rw [ho] at B
    rw [B]
    exact wpAny_pure (go [] fun y hy => nomatch hy)
  · rw [ho] at B
    obtain ⟨k', b1, b2⟩ := B (lq X) (lcl X T) ta doc pm (.ref c') ctv
    obtain ⟨_, its, ri, oT, hoT, hcl, n, hdT⟩ := (show ObjOk X.prog X.w HZ s1.heap ta (.tup [.int 0]) from e0.hok ta _ hta)
    cases ri with
    | @cons _ v _ _ rv rn =>
      cases rn
      refine BindsTo.of_defaults (fd := PySem.W.kdv_fn "<lambda>" (lq X) T.par (.expr T.body) T.scope (lcl X T) (.ref ta) doc pm (.ref c') ctv) (binds := [(a, v)]) rfl hoT hdT b1 (b2 v) _ _ _ _ ?_
      refine go [(a, v)] fun y hy => ?_
      rw [List.mem_singleton.mp hy]
      exact L.par a ho
/-- within a block of X's def its lambdas may be called -/
theorem blk_mkr {scope : Scope} {ce : Env} {fp : List Addr} (I : Inv X pins σ H s) (hfp : ∀ b ∈ fp, FpOk X pins H b) {pins' : List (Addr × Obj)} {σ' : L2.St} {H' : Hp} {s' : Shared} (J : Inv (X.blk s H scope ce fp) pins' σ' H' s') : Mkr X σ H' s' :=
  (Mkr.of I).un J.base fun b hb y c e => (hfp b hb).2.2.2.2.1 y c e
/-- x(), x a lambda of X's def -/
def tCallM (X : Cx) (σ : L2.St) (k j : Nat) : TE := fun σ' H Q => ∃ (f : Addr) (T : LamT) (t : XK → TE), σ'[j]? = some (some (.ref f)) ∧ LamS2 X.N X.env.scope T ∧ LamB T ∧ LamPE X T k t ∧ LamV (lq X) (lcl X T) H f T ∧ t E0 σ H Q
theorem pe_callM {scope : Scope} {ce : Env} {fp : List Addr} {x : Str} {j k : Nat} {p1 p2 : Pos} (I : Inv X pins σ H s) (hfp : ∀ b ∈ fp, FpOk X pins H b) (hN : X.N[j]? = some x) (hv : Vis ce.scope x) (hr : Room (k + 1) X.A)
    (hd : (x == ("__debug__" : Str)) = false := by decide) (hcd : (x == ("__classdict__" : Str)) = false := by decide) : PE (X.blk s H scope ce fp) (.Call (.Name x p1) [] [] p2) (tCallM X σ k j) := by
  refine ⟨fun pinsZ sZ σZ HZ Q IZ hh => ?_⟩
  obtain ⟨f, T, t, hs, L, B, hb, hvZ, ht⟩ := hh
  refine wpAny_Call_Name_kw (thn ((pe_var (X := X.blk s H scope ce fp) (pos := p1) (i := j) hN hv hd hcd).run pinsZ sZ σZ HZ (fun v H1 => v = .ref f ∧ H1 = HZ) IZ ⟨.ref f, hs, rfl, rfl⟩) fun u s2 ⟨v, H2, I2, r2, ev, eH⟩ => ?_)
  subst ev eH
  obtain rfl : u = Value.ref f := r2
  obtain ⟨c', dV', hf, _⟩ := id hvZ
  obtain ⟨⟨doc', pm', ctv', of⟩, _, _⟩ := I2.hok f _ hf
  refine PySem.W.callWith_F0 ⟨_, _, _, _, of⟩ ?_
  have rc := lam_runM (E := E0) (Q := Q) (blk_mkr I hfp I2) L B I2.env0 hr hb hvZ ht
  refine wpAny_call (codeAny_mono rc fun r s' hq => ?_)
  cases r with
  | error e => exact passL (X := X.blk s H scope ce fp) pinsZ σZ H2 s2 e s' I2 hq
  | ok fl =>
    cases fl with
    | ret u => exact I2.after hq
    | next => exact False.elim hq
    | brk => exact False.elim hq
    | cont => exact False.elim hq
/-! ### a list of what a maker's lambdas give -/
/-- the block's frame, begun at s -/
abbrev blkEnv (X : Cx) (s : Shared) (scope : Scope) : Env := compEnvC scope (cellsFrom (s.heap.objs.size + 1) scope.names (cloFrom X.env.cells scope.names [])) s.heap.objs.size X.env
theorem blk_walk {elt tg iter : Expr} {scope : Scope} {own : List (Str × Nat)} {pos : Pos} {g : TG} {te : TE} {J : It} {fp : List Addr} {it D : Addr} {tn : Nat → Heap → Prop} {W : Nat → Nat → Hp → Prop} {m0 : Nat} {Q : VK} {Qf : Value → Shared → Prop}
    (I : Inv X pins σ H s) (hc : X.calm = true) (hN : X.N.Nodup) (ok : BlkOk X.N X.env.scope scope own) (hf : ∀ b ∈ fp, FpOk X pins H b ∧ b < s.heap.objs.size) (T : Turn X.prog X.w X.K tg J fp it tn) (st : tn 0 s.heap) (w0 : W 0 m0 H)
    (turn : ∀ (i m : Nat) (H : Hp), W i m H → J.stop i H ∧ Q (V.ref D) H ∨ J.go i H ∧ ∃ Nx : Hp → Prop, (∀ H', Nx H' → ∃ m', m' < m ∧ W (i + 1) m' H') ∧ ∀ (x : V) (H' : Hp), J.yld i H x H' →
      g x (wipe σ (own.map (·.2))) H' fun σ2 H2 => wipe σ2 (own.map (·.2)) = wipe σ (own.map (·.2)) ∧ te σ2 H2 fun y H4 => ∃ acc, H4 D = some (HO.lst acc) ∧ acc.length < sizeLine ∧ Nx (upd H4 D (HO.lst (acc ++ [y]))))
    (hg : PG (X.blk s H scope (blkEnv X s scope) fp) tg g) (he : PE (X.blk s H scope (blkEnv X s scope) fp) elt te)
    (fin : ∀ (s' : Shared) (m : Str → Option Value) (H' : Hp), Inv X pins σ H' s' → Q (.ref D) H' → s'.heap.Ns s.heap.objs.size m → FpOk X pins H' s.heap.objs.size → compPost (model X.prog X.w) X.A X.xe none Qf (.ref D) s.heap.objs.size (.ok .next) s') :
    codeAny (model X.prog X.w) X.A (.compStart (.ListComp elt [⟨tg, iter, [], 0⟩] scope pos) 0 (.ref it) (.ref D) (blkEnv X s scope)) (compPost (model X.prog X.w) X.A X.xe none Qf (.ref D) s.heap.objs.size) { s with heap := pushCells (s.heap.push { cls := .type "dict", data := .dict #[] }) scope.names } := by
  have first : Inv (X.blk s H scope (blkEnv X s scope) fp) [] (wipe σ (own.map (·.2))) H { s with heap := pushCells (s.heap.push { cls := .type "dict", data := .dict #[] }) scope.names } := block_start I ok hN hf
  have st1 : tn 0 (pushCells (s.heap.push { cls := .type "dict", data := .dict #[] }) scope.names) := T.keep _ _ _ st fun b _ o e => pushCells_keeps _ _ _ _ (Heap.get?_push_of_some _ e)
  have eL : (blkEnv X s scope).locals = s.heap.objs.size := rfl
  generalize hvs : own.map (·.2) = vs at *
  generalize blkEnv X s scope = ce at *
  -- what the iterator's objects are in the block
  have own_fp : ∀ {σ' : L2.St} {H' : Hp} {s' : Shared}, Inv (X.blk s H scope ce fp) [] σ' H' s' → (∀ b ∈ fp, H' b = none) → ∀ b ∈ fp, FpOk (X.blk s H scope ce fp) [] H' b := fun I' n b hb =>
    ⟨n b hb, (I'.ok.exf b hb).1, I'.ok.exfs b hb, .inl hb, (I'.ok.exf b hb).2, fun p hp => nomatch (show p ∈ ([] : List (Addr × Obj)) from hp)⟩
  have loop : codeAny (model X.prog X.w) X.A (.compLoop (.ListComp elt [⟨tg, iter, [], 0⟩] scope pos) 0 (.ref it) (.ref D) ce) (compPost (model X.prog X.w) X.A X.xe none Qf (.ref D) s.heap.objs.size) { s with heap := pushCells (s.heap.push { cls := .type "dict", data := .dict #[] }) scope.names } := by
    refine compLoop_any (fun n s' => ∃ i H', Inv (X.blk s H scope ce fp) [] (wipe σ vs) H' s' ∧ tn i s'.heap ∧ (∀ b ∈ fp, H' b = none) ∧ W i n H') ?_ m0 ⟨0, H, first, st1, fun b hb => (hf b hb).1.1, w0⟩
    rintro n sX ⟨i, HX, IX, stX, nX, wX⟩
    rcases turn i n HX wX with ⟨stop, hQ⟩ | ⟨go, Nx, less, step⟩
    · refine thnF (T.done (X.blk s H scope ce fp) rfl rfl rfl hc i [] sX _ HX (fun _ _ => False) IX (own_fp IX nX) stX stop) fun r sY ⟨hr, IY⟩ => ?_
      subst hr
      have back : Inv X pins σ HX sY := I.call' (ch := fp) IY.os IY.base IY.hok IY.bare fun b hb => ⟨(hf b hb).1.2.2.2.1, (hf b hb).1.2.1, (hf b hb).1.2.2.2.2.1, (hf b hb).1.2.2.2.2.2⟩
      have nL : HX s.heap.objs.size = none := eL ▸ IY.free
      obtain ⟨m, hn, _⟩ := IY.loc
      exact fin sY m HX back hQ (eL ▸ hn) (I.fpOk (Nat.le_refl _) nL)
    · refine thnF (T.item (X.blk s H scope ce fp) rfl rfl rfl hc i [] sX _ HX (fun _ _ => False) IX (own_fp IX nX) stX go) fun r sY ⟨u, hr, hY⟩ => ?_
      subst hr
      refine thnF hY fun _ sZ ⟨x, HZ, IZ, rZ, yZ, stZ, nZ⟩ => ?_
      have IP := IZ.pinned (own_fp IZ nZ) (T.obj _ _ stZ)
      refine thnF (hg.run _ sZ _ HZ x u _ IP rZ (step x HZ yZ)) fun _ sU ⟨σU, HU, IU, wU, qU⟩ => ?_
      have len : (wipe σ vs).length = σU.length := by rw [← wU, wipe_length]
      refine thnF ((pts_nil (X := X.blk s H scope ce fp)).run _ sU σU HU (fun b HV => b = true ∧ HV = HU) IU ⟨rfl, rfl⟩) fun b sV ⟨HV, IV, eb, eV⟩ => ?_
      subst eb eV
      simp only [if_true]
      refine thnF (he.run _ sV σU HV _ IV qU) fun z sT ⟨y, HT, IT, rT, acc, hT, zT, nx⟩ => ?_
      refine app_ok (X := X.blk s H scope ce fp) IT hT zT rT fun sE IE => ?_
      obtain ⟨m', lt, w'⟩ := less _ nx
      have pinned : ∀ b ∈ fp, ∀ o, sZ.heap.get? b = some o → sE.heap.get? b = some o ∧ upd HT D (.lst (acc ++ [y])) b = none := fun b hb o e =>
        have z := IE.pin (b, o) (List.mem_append_right _ (List.mem_append_right _ (mem_pinsAt hb e)))
        ⟨z.1, z.2.1⟩
      refine ⟨m', lt, i + 1, _, (IE.unpinned (pins := [])).weak len fun j v e => ?_, T.keep _ _ _ stZ fun b hb o e => (pinned b hb o e).1, fun b hb => ?_, w'⟩
      · rw [← wU] at e
        exact (wipe_some e).1
      · obtain ⟨o, e, _⟩ := T.obj _ _ stZ b hb
        exact (pinned b hb o e).2
  exact codeAny_compStart_list loop (T.self X.A 0 _ _ _ st1 loop)
theorem pe_lcM {elt tg iter : Expr} {scope : Scope} {own : List (Str × Nat)} {pos : Pos} {wi : TI} {g : TG} {te : L2.St → TE} (hc : X.calm = true) (hN : X.N.Nodup) (hi : PI X tg iter wi) (ok : BlkOk X.N X.env.scope scope own)
    (hg : ∀ (s : Shared) (H : Hp) (C : Addr) (cl : List (Str × Addr)) (fp : List Addr), PG (X.blk s H scope (compEnvC scope cl C X.env) fp) tg g)
    (he : ∀ (pins : List (Addr × Obj)) (σ : L2.St) (s : Shared) (H : Hp) (C : Addr) (cl : List (Str × Addr)) (fp : List Addr), Inv X pins σ H s → (∀ b ∈ fp, FpOk X pins H b) → PE (X.blk s H scope (compEnvC scope cl C X.env) fp) elt (te σ)) (hs : ∀ x, foldedSetIterable iter X.env x = pure x := by intro _; rfl) :
    PE X (.ListComp elt [⟨tg, iter, [], 0⟩] scope pos) (fun σ => tLc wi g tYes (te σ) (own.map (·.2)) σ) := by
  refine ⟨fun pins s σ H Q I h => ?_⟩
  rw [eval_ListComp]
  have fr : ∀ y ∈ scope.names, y.2 = .free → ∃ c, X.env.cells.lookup y.1 = some c := fun y hy e => I.ok.has _ (ok.free y hy e)
  refine wpAny_comprehension_free (use := none) rfl hs (closure_ok fr) ok.kind (fun y hy e => by rw [ok.uniq y hy, e]) (thn (hi.run pins s σ H _ I h) fun xv sA hx => thn hx fun itv sB hB => ?_)
  obtain ⟨it, fp, tn, J, HB, rfl, IB, T, stB, fpB, q⟩ := hB
  refine wpAny_newObj_type (newEnv_comp ?_) (by show 0 ≤ sizeLine; decide)
  obtain ⟨W, ⟨m0, w0⟩, turn⟩ := q _ (IB.hok.fresh (Nat.le_refl _))
  have kpB : ∀ {ob : Obj} (b : Addr) (o : Obj), sB.heap.get? b = some o → (sB.heap.push ob).get? b = some o := fun b o e => Heap.get?_push_of_some _ e
  have IC := IB.laid (a := sB.heap.objs.size) (o := .lst []) (t' := sB.toks) (h' := sB.heap.push { cls := .type "list", data := .seq ([] : List Value).toArray }) (fun b o e => kpB b o e) (Nat.le_refl _) ⟨Nat.zero_le _, [], 0, .nil, Heap.get?_push_size _ rfl⟩
  have fC : ∀ b ∈ fp, FpOk X pins (upd HB sB.heap.objs.size (.lst [])) b ∧ b < (sB.heap.push { cls := .type "list", data := .seq ([] : List Value).toArray }).objs.size := fun b hb => by
    obtain ⟨o, e, _⟩ := T.obj _ _ stB b hb
    have lt := Heap.lt_size e
    exact ⟨⟨by rw [upd_ne (Nat.ne_of_lt lt)]; exact (fpB b hb).1, (fpB b hb).2⟩, by rw [Heap.size_push]; exact Nat.lt_succ_of_lt lt⟩
  have stC : tn 0 (sB.heap.push { cls := .type "list", data := .seq ([] : List Value).toArray }) := T.keep _ _ _ stB fun b _ o e => kpB b o e
  have ID := block_start IC ok hN fC
  refine blk_walk (Q := Q) IC hc hN ok fC T stC w0 (fun i m H w => ?_) (hg _ _ _ _ _) (he pins σ _ _ _ _ fp IC fun b hb => (fC b hb).1) fun s' m H' I' q hn f => ⟨m, hn, fun h'' sb => ?_⟩
  · exact turn i m H w
  · obtain ⟨f0, f1, f2, f3, f4, f5⟩ := f
    exact ⟨.ref _, H', I'.turned (t' := s'.toks) (fun b o hb e => (sb.2 b hb).trans e) f0 f1 f3 f4 f5, rfl, q⟩
/-! ### told(x), x a lambda of X's def, within a block of it -/
theorem told_runM {A : Around} {stack : List Env} {x a : Str} {g f : Addr} {Ng : List Str} {bg : List Stmt} {sg : Scope} {cdv : Value} {k : Nat} {T : LamT} {t : XK → TE} {TT : (XK → Hp → VK → Prop) → Hp → VK → Prop} {Q : VK} (M : Mkr X σ H s) (e0 : Env0 X.prog X.w X.K X.mg X.base A stack s H) (kin : X.K.In s.heap) (W : Teller X.K X.mg x a g Ng bg sg cdv)
    (hG : GivesV X.prog X.w X.K X.mg X.base A stack Ng x sg g cdv bg a TT) (hr : Room (k + 2) A) (L : LamS2 X.N X.env.scope T) (B : LamB T) (hb : LamPE X T k t) (hv : LamV (lq X) (lcl X T) H f T) (h : TT (fun E H' Q' => t E σ H' Q') H Q)
    (hd : (a == ("__debug__" : Str)) = false) (hcd : (a == ("__classdict__" : Str)) = false) :
    codeAny (model X.prog X.w) A (.call (.ref g) ⟨[.ref f], []⟩) (L2.CR L2.CX0 stack X.prog X.w H s Q L2.E0) s := by
  obtain ⟨oc, od, pg, dV, kV, doc, pm, ct, an, osl, lk, hbind⟩ := W.lk
  refine run_ofS (N := Ng) (ps := [a]) (us := [.ref f]) (vs := [.ref f]) lk W.cd W.sc hr e0 (hbind s [.ref f] kin rfl) (.cons rfl .nil) rfl fun hr' => ?_
  have act : ∀ (Wx : WX) (pn : List (Addr × Obj)) (xe : Value → Shared → Prop) (E : XK) (p1 p2 : Pos), Takes ((cxOf L2.CX0 X.prog X.w X.K X.mg X.base Ng x sg g cdv A stack s H L2.E0).tr pn xe) Wx → (∀ cls d σ' H', σ'.length = Ng.length → E cls d H' → Wx cls d σ' H') →
      PE ((cxOf L2.CX0 X.prog X.w X.K X.mg X.base Ng x sg g cdv A stack s H L2.E0).tr pn xe) (.Call (.Name a p1) [] [] p2) (fun σZ HZ Q => σZ[0]? = some (some (.ref f)) ∧ LamV (lq X) (lcl X T) HZ f T ∧ t E σ HZ Q) := by
    intro Wx pn xe E p1 p2 tk hW
    refine ⟨fun pinsZ sZ σZ HZ Q IZ hh => ?_⟩
    obtain ⟨hs, hvZ, ht⟩ := hh
    refine wpAny_Call_Name_kw (thn ((pe_var (pos := p1) (i := 0) W.n0 W.vis hd hcd).run pinsZ sZ σZ HZ (fun v H1 => v = .ref f ∧ H1 = HZ) IZ ⟨.ref f, hs, rfl, rfl⟩) fun u s2 ⟨v, H2, I2, r2, ev, eH⟩ => ?_)
    subst ev eH
    obtain rfl : u = Value.ref f := r2
    obtain ⟨c', dV', hf, _⟩ := id hvZ
    obtain ⟨⟨doc', pm', ctv', of⟩, _, _⟩ := I2.hok f _ hf
    refine PySem.W.callWith_F0 ⟨_, _, _, _, of⟩ ?_
    have M2 : Mkr X σ H2 s2 := M.un I2.base fun b hb => nomatch (show b ∈ ([] : List Addr) from hb)
    have rc := lam_runM (E := E) (Q := Q) M2 L B I2.env0 hr' hb hvZ ht
    refine wpAny_call (codeAny_mono rc fun r s' hq => ?_)
    cases r with
    | error e => exact tk e s' (XE.of_call I2 (fun cls d H' h => hW cls d σZ H' I2.len h) hq)
    | ok fl =>
      cases fl with
      | ret u => exact I2.after hq
      | next => exact False.elim hq
      | brk => exact False.elim hq
      | cont => exact False.elim hq
  obtain ⟨t', ht', hq'⟩ := hG f s H Q (fun HZ => LamV (lq X) (lcl X T) HZ f T) (fun E H' Q' => t E σ H' Q') act hv h
  exact ⟨t', ht'.nox, hq'⟩
def tToldM (X : Cx) (σ : L2.St) (k : Nat) (TT : (XK → Hp → VK → Prop) → Hp → VK → Prop) (te : TE) : TE := fun σ' H Q => te σ' H fun y H1 => ∃ (f : Addr) (T : LamT) (t : XK → TE), y = .ref f ∧ LamS2 X.N X.env.scope T ∧ LamB T ∧ LamPE X T k t ∧ LamV (lq X) (lcl X T) H1 f T ∧ TT (fun E H' Q' => t E σ H' Q') H1 Q
theorem pe_toldM {scope : Scope} {ce : Env} {fp : List Addr} {x a : Str} {g : Addr} {Ng : List Str} {bg : List Stmt} {sg : Scope} {cdv : Value} {k : Nat} {TT : (XK → Hp → VK → Prop) → Hp → VK → Prop} {e : Expr} {te : TE} {p pos : Pos} (I : Inv X pins σ H s) (hfp : ∀ b ∈ fp, FpOk X pins H b) (W : Teller X.K X.mg x a g Ng bg sg cdv) (hg : Gl (X.blk s H scope ce fp) x)
    (hG : GivesV X.prog X.w X.K X.mg X.base X.A X.stack Ng x sg g cdv bg a TT) (hr : Room (k + 2) X.A) (he : PE (X.blk s H scope ce fp) e te) (hdb : (x == ("__debug__" : Str)) = false := by decide) (hd : (a == ("__debug__" : Str)) = false := by decide) (hcd : (a == ("__classdict__" : Str)) = false := by decide)
    (h1 : starEach [e] ce = (false, eval e ce) :: starEach [] ce := by rfl) (h2 : (backTo pos (starEach [] ce)).any (·.1) = false := by rfl) :
    PE (X.blk s H scope ce fp) (.Call (.Name x p) [e] [] pos) (tToldM X σ k TT te) := by
  refine ⟨fun pinsY sY σY HY Q IY h => ?_⟩
  have ha : PA (X.blk s H scope ce fp) [e] (tCons te tNil) := pa_cons he pa_nil h1
  refine wpAny_Call_Name_kw (ld_glob IY hg W.mgx ?_ hdb)
  refine PySem.W.callWith_K (h₀ := X.base) IY.ok.mod.kin W.k (thn (ha.run pos pinsY sY σY HY (fun vs H1 => ∃ (f : Addr) (T : LamT) (t : XK → TE), vs = [.ref f] ∧ LamS2 X.N X.env.scope T ∧ LamB T ∧ LamPE X T k t ∧ LamV (lq X) (lcl X T) H1 f T ∧ TT (fun E H' Q' => t E σ H' Q') H1 Q) IY ?_) fun us s1 hs => ?_) h1 h2
  · show te σY HY _
    have key : ∀ (Q1 Q2 : VK), Q1 = Q2 → te σY HY Q1 → te σY HY Q2 := fun _ _ z y => z ▸ y
    refine key _ _ (funext fun y => funext fun H1 => propext ⟨fun ⟨f, T, t, e, r⟩ => ⟨f, T, t, by rw [e], r⟩, fun ⟨f, T, t, e, r⟩ => ⟨f, T, t, by injection e, r⟩⟩) h
  · obtain ⟨vs, H1, I1, r, f, T, t, rfl, L, B, hb, hv, hT⟩ := hs
    obtain ⟨u, rfl, ru⟩ := r.one
    obtain rfl : u = Value.ref f := ru
    refine ⟨I1.kIn, wpAny_call (codeAny_mono (told_runM (X := X) (blk_mkr I hfp I1) I1.env0 I1.kIn W hG hr L B hb hv hT hd hcd) fun r s2 hq => ?_)⟩
    cases r with
    | error e => exact (show False from hq).elim
    | ok fl =>
      cases fl with
      | ret u => exact I1.after hq
      | next => exact False.elim hq
      | brk => exact False.elim hq
      | cont => exact False.elim hq
end
end OwnR

set_option Elab.async false
set_option linter.all false
set_option maxRecDepth 100000
set_option maxHeartbeats 2000000
/-! A comprehension that makes a set of ints. -/
namespace OwnR
open PySem PySem.Spec PyProof.Rows L2 LamX PpSet
section
variable {X : Cx} {pins : List (Addr × Obj)} {σ : L2.St} {H : Hp} {s : Shared}
/-- one more int in the set at D -/
theorem addI_ok {Q : Value → Shared → Prop} {E : Value → Shared → Prop} {D : Addr} {S : Int → Bool} {n : Nat} {i : Int} {t : Tok} (I : Inv X pins σ H s) (hD : H D = some (SetO X.w D S n)) (room : n + 1 < scanBound)
    (h : ∀ s', Inv X pins σ (upd H D (SetO X.w D (fun j => S j || decide (j = i)) (if S i = true then n else n + 1))) s' → Q .none s') : wpAny (model X.prog X.w) X.A (call (.builtin "set.add") [.ref D, .int i t]) Q E s :=
  setR_add (setO_get I hD) room fun h' but R => h _ (I.write (e := D) (t' := s.toks + 1) (by rw [hD]; exact True.intro) (.inl rfl) (fun b u ne e => (but.2 b ne).trans e) (let ⟨o, _, _, _, e, _⟩ := R; ⟨o, e⟩) (setO_new R))
/-- {elt for target in iter}: the reading -/
def tScI (w : World) (wi : TI) (g : TG) (te : TE) (vs : List Nat) : TE := fun σ H Q => wi σ H fun J H1 => ∀ D, H1 D = none → ∃ W : Nat → Nat → Hp → Prop, (∃ m, W 0 m (upd H1 D (SetO w D (fun _ => false) 0))) ∧ ∀ i m H, W i m H →
  (J.stop i H ∧ Q (.ref D) H) ∨ (J.go i H ∧ ∃ Nx : Hp → Prop, (∀ H', Nx H' → ∃ m', m' < m ∧ W (i + 1) m' H') ∧ ∀ x H', J.yld i H x H' → g x (wipe σ vs) H' fun σ2 H2 => wipe σ2 vs = wipe σ vs ∧
    te σ2 H2 fun y H4 => ∃ (k : Int) (S : Int → Bool) (n : Nat), y = .int k ∧ H4 D = some (SetO w D S n) ∧ n + 1 < scanBound ∧ Nx (upd H4 D (SetO w D (fun j => S j || decide (j = k)) (if S k = true then n else n + 1))))
theorem blk_walkS {elt tg iter : Expr} {scope : Scope} {own : List (Str × Nat)} {pos : Pos} {g : TG} {te : TE} {J : It} {fp : List Addr} {it D : Addr} {tn : Nat → Heap → Prop} {W : Nat → Nat → Hp → Prop} {m0 : Nat} {Q : VK} {Qf : Value → Shared → Prop}
    (I : Inv X pins σ H s) (hc : X.calm = true) (hN : X.N.Nodup) (ok : BlkOk X.N X.env.scope scope own) (hf : ∀ b ∈ fp, FpOk X pins H b ∧ b < s.heap.objs.size) (T : Turn X.prog X.w X.K tg J fp it tn) (st : tn 0 s.heap) (w0 : W 0 m0 H)
    (turn : ∀ (i m : Nat) (H : Hp), W i m H → J.stop i H ∧ Q (V.ref D) H ∨ J.go i H ∧ ∃ Nx : Hp → Prop, (∀ H', Nx H' → ∃ m', m' < m ∧ W (i + 1) m' H') ∧ ∀ (x : V) (H' : Hp), J.yld i H x H' →
      g x (wipe σ (own.map (·.2))) H' fun σ2 H2 => wipe σ2 (own.map (·.2)) = wipe σ (own.map (·.2)) ∧ te σ2 H2 fun y H4 => ∃ (k : Int) (S : Int → Bool) (n : Nat), y = .int k ∧ H4 D = some (SetO X.w D S n) ∧ n + 1 < scanBound ∧ Nx (upd H4 D (SetO X.w D (fun j => S j || decide (j = k)) (if S k = true then n else n + 1))))
    (hg : PG (X.blk s H scope (blkEnv X s scope) fp) tg g) (he : PE (X.blk s H scope (blkEnv X s scope) fp) elt te)
    (fin : ∀ (s' : Shared) (m : Str → Option Value) (H' : Hp), Inv X pins σ H' s' → Q (.ref D) H' → s'.heap.Ns s.heap.objs.size m → FpOk X pins H' s.heap.objs.size → compPost (model X.prog X.w) X.A X.xe none Qf (.ref D) s.heap.objs.size (.ok .next) s') :
    codeAny (model X.prog X.w) X.A (.compStart (.SetComp elt [⟨tg, iter, [], 0⟩] scope pos) 0 (.ref it) (.ref D) (blkEnv X s scope)) (compPost (model X.prog X.w) X.A X.xe none Qf (.ref D) s.heap.objs.size) { s with heap := pushCells (s.heap.push { cls := .type "dict", data := .dict #[] }) scope.names } := by
  have first : Inv (X.blk s H scope (blkEnv X s scope) fp) [] (wipe σ (own.map (·.2))) H { s with heap := pushCells (s.heap.push { cls := .type "dict", data := .dict #[] }) scope.names } := block_start I ok hN hf
  have st1 : tn 0 (pushCells (s.heap.push { cls := .type "dict", data := .dict #[] }) scope.names) := T.keep _ _ _ st fun b _ o e => pushCells_keeps _ _ _ _ (Heap.get?_push_of_some _ e)
  have eL : (blkEnv X s scope).locals = s.heap.objs.size := rfl
  generalize hvs : own.map (·.2) = vs at *
  generalize blkEnv X s scope = ce at *
  have own_fp : ∀ {σ' : L2.St} {H' : Hp} {s' : Shared}, Inv (X.blk s H scope ce fp) [] σ' H' s' → (∀ b ∈ fp, H' b = none) → ∀ b ∈ fp, FpOk (X.blk s H scope ce fp) [] H' b := fun I' n b hb =>
    ⟨n b hb, (I'.ok.exf b hb).1, I'.ok.exfs b hb, .inl hb, (I'.ok.exf b hb).2, fun p hp => nomatch (show p ∈ ([] : List (Addr × Obj)) from hp)⟩
  have loop : codeAny (model X.prog X.w) X.A (.compLoop (.SetComp elt [⟨tg, iter, [], 0⟩] scope pos) 0 (.ref it) (.ref D) ce) (compPost (model X.prog X.w) X.A X.xe none Qf (.ref D) s.heap.objs.size) { s with heap := pushCells (s.heap.push { cls := .type "dict", data := .dict #[] }) scope.names } := by
    refine compLoopS_any (fun n s' => ∃ i H', Inv (X.blk s H scope ce fp) [] (wipe σ vs) H' s' ∧ tn i s'.heap ∧ (∀ b ∈ fp, H' b = none) ∧ W i n H') ?_ m0 ⟨0, H, first, st1, fun b hb => (hf b hb).1.1, w0⟩
    rintro n sX ⟨i, HX, IX, stX, nX, wX⟩
    rcases turn i n HX wX with ⟨stop, hQ⟩ | ⟨go, Nx, less, step⟩
    · refine thnF (T.done (X.blk s H scope ce fp) rfl rfl rfl hc i [] sX _ HX (fun _ _ => False) IX (own_fp IX nX) stX stop) fun r sY ⟨hr, IY⟩ => ?_
      subst hr
      have back : Inv X pins σ HX sY := I.call' (ch := fp) IY.os IY.base IY.hok IY.bare fun b hb => ⟨(hf b hb).1.2.2.2.1, (hf b hb).1.2.1, (hf b hb).1.2.2.2.2.1, (hf b hb).1.2.2.2.2.2⟩
      have nL : HX s.heap.objs.size = none := eL ▸ IY.free
      obtain ⟨m, hn, _⟩ := IY.loc
      exact fin sY m HX back hQ (eL ▸ hn) (I.fpOk (Nat.le_refl _) nL)
    · refine thnF (T.item (X.blk s H scope ce fp) rfl rfl rfl hc i [] sX _ HX (fun _ _ => False) IX (own_fp IX nX) stX go) fun r sY ⟨u, hr, hY⟩ => ?_
      subst hr
      refine thnF hY fun _ sZ ⟨x, HZ, IZ, rZ, yZ, stZ, nZ⟩ => ?_
      have IP := IZ.pinned (own_fp IZ nZ) (T.obj _ _ stZ)
      refine thnF (hg.run _ sZ _ HZ x u _ IP rZ (step x HZ yZ)) fun _ sU ⟨σU, HU, IU, wU, qU⟩ => ?_
      have len : (wipe σ vs).length = σU.length := by rw [← wU, wipe_length]
      refine thnF ((pts_nil (X := X.blk s H scope ce fp)).run _ sU σU HU (fun b HV => b = true ∧ HV = HU) IU ⟨rfl, rfl⟩) fun b sV ⟨HV, IV, eb, eV⟩ => ?_
      subst eb eV
      simp only [if_true]
      refine thnF (he.run _ sV σU HV _ IV qU) fun z sT ⟨y, HT, IT, rT, k, S, c, ey, hT, room, nx⟩ => ?_
      subst ey
      obtain ⟨tk, rfl⟩ := (show ∃ t, z = Value.int k t from rT)
      refine addI_ok (X := X.blk s H scope ce fp) IT hT room fun sE IE => ?_
      obtain ⟨m', lt, w'⟩ := less _ nx
      have pinned : ∀ b ∈ fp, ∀ o, sZ.heap.get? b = some o → sE.heap.get? b = some o ∧ upd HT D (SetO X.w D (fun j => S j || decide (j = k)) (if S k = true then c else c + 1)) b = none := fun b hb o e =>
        have z := IE.pin (b, o) (List.mem_append_right _ (List.mem_append_right _ (mem_pinsAt hb e)))
        ⟨z.1, z.2.1⟩
      refine ⟨m', lt, i + 1, _, (IE.unpinned (pins := [])).weak len fun j v e => ?_, T.keep _ _ _ stZ fun b hb o e => (pinned b hb o e).1, fun b hb => ?_, w'⟩
      · rw [← wU] at e
        exact (wipe_some e).1
      · obtain ⟨o, e, _⟩ := T.obj _ _ stZ b hb
        exact (pinned b hb o e).2
  exact codeAny_compStart_set loop (T.self X.A 0 _ _ _ st1 loop)
theorem pe_scI {elt tg iter : Expr} {scope : Scope} {own : List (Str × Nat)} {pos : Pos} {wi : TI} {g : TG} {te : TE} (hc : X.calm = true) (hN : X.N.Nodup) (hi : PI X tg iter wi) (ok : BlkOk X.N X.env.scope scope own)
    (hg : ∀ (s : Shared) (H : Hp) (C : Addr) (cl : List (Str × Addr)) (fp : List Addr), PG (X.blk s H scope (compEnvC scope cl C X.env) fp) tg g)
    (he : ∀ (s : Shared) (H : Hp) (C : Addr) (cl : List (Str × Addr)) (fp : List Addr), PE (X.blk s H scope (compEnvC scope cl C X.env) fp) elt te) (hs : ∀ x, foldedSetIterable iter X.env x = pure x := by intro _; rfl) :
    PE X (.SetComp elt [⟨tg, iter, [], 0⟩] scope pos) (tScI X.w wi g te (own.map (·.2))) := by
  refine ⟨fun pins s σ H Q I h => ?_⟩
  rw [eval_SetComp]
  have fr : ∀ y ∈ scope.names, y.2 = .free → ∃ c, X.env.cells.lookup y.1 = some c := fun y hy e => I.ok.has _ (ok.free y hy e)
  refine wpAny_comprehension_free (use := none) rfl hs (closure_ok fr) ok.kind (fun y hy e => by rw [ok.uniq y hy, e]) (thn (hi.run pins s σ H _ I h) fun xv sA hx => thn hx fun itv sB hB => ?_)
  obtain ⟨it, fp, tn, J, HB, rfl, IB, T, stB, fpB, q⟩ := hB
  refine newSet_ok (newEnv_comp ?_)
  obtain ⟨W, ⟨m0, w0⟩, turn⟩ := q _ (IB.hok.fresh (Nat.le_refl _))
  have kpB : ∀ {ob : Obj} (b : Addr) (o : Obj), sB.heap.get? b = some o → (sB.heap.push ob).get? b = some o := fun b o e => Heap.get?_push_of_some _ e
  have IC := IB.laid (a := sB.heap.objs.size) (o := SetO X.w sB.heap.objs.size (fun _ => false) 0) (t' := sB.toks) (h' := sB.heap.push { cls := .type "set", dict := none, data := .set #[] 0 (.fresh 0 0 (!X.w.params.followText "set-order")) }) (fun b o e => kpB b o e) (Nat.le_refl _) (setO_new (setR_fresh X.w))
  have fC : ∀ b ∈ fp, FpOk X pins (upd HB sB.heap.objs.size (SetO X.w sB.heap.objs.size (fun _ => false) 0)) b ∧ b < (sB.heap.push { cls := .type "set", dict := none, data := .set #[] 0 (.fresh 0 0 (!X.w.params.followText "set-order")) }).objs.size := fun b hb => by
    obtain ⟨o, e, _⟩ := T.obj _ _ stB b hb
    have lt := Heap.lt_size e
    exact ⟨⟨by rw [upd_ne (Nat.ne_of_lt lt)]; exact (fpB b hb).1, (fpB b hb).2⟩, by rw [Heap.size_push]; exact Nat.lt_succ_of_lt lt⟩
  have stC : tn 0 (sB.heap.push { cls := .type "set", dict := none, data := .set #[] 0 (.fresh 0 0 (!X.w.params.followText "set-order")) }) := T.keep _ _ _ stB fun b _ o e => kpB b o e
  have ID := block_start IC ok hN fC
  refine blk_walkS (Q := Q) IC hc hN ok fC T stC w0 (fun i m H w => ?_) (hg _ _ _ _ _) (he _ _ _ _ fp) fun s' m H' I' q hn f => ⟨m, hn, fun h'' sb => ?_⟩
  · exact turn i m H w
  · obtain ⟨f0, f1, f2, f3, f4, f5⟩ := f
    exact ⟨.ref _, H', I'.turned (t' := s'.toks) (fun b o hb e => (sb.2 b hb).trans e) f0 f1 f3 f4 f5, rfl, q⟩
end
end OwnR

set_option Elab.async false
set_option linter.all false
set_option maxRecDepth 100000
set_option maxHeartbeats 4000000
/-! set(xs), xs a list of ints. -/
namespace OwnR
open PySem PySem.Spec PyProof.Rows L2 LamX L2
section
variable {P : Program} {w : World} {A : Around} {E : Value → Shared → Prop} {s : Shared}
/-- the empty set's object -/
abbrev setE (w : World) : Obj := { cls := .type "set", dict := none, data := .set #[] 0 (.fresh 0 0 (!w.params.followText "set-order")) }
/-- its __init__ -/
theorem set_init_list {l : Addr} {items : Array Value} (ns : List Int) (hh : A.handled = none) (hl : s.heap.IsList l items) (hit : IntsAre items.toList ns) (hb : ns.length + 1 < scanBound) :
    codeAny (model P w) A (.call (.builtin "set.__init__") ⟨[.ref s.heap.objs.size, .ref l], []⟩) (wants (fun r s₂ => r = .none ∧ ∃ h' tk c, s₂ = { s with heap := h', toks := tk } ∧ SetR w h' s.heap.objs.size (fun j => decide (j ∈ ns)) c ∧ c ≤ ns.length ∧ (∀ b o, s.heap.get? b = some o → h'.get? b = some o)) E) { s with heap := s.heap.push (setE w) } := by
  have size : items.size = ns.length := by rw [← Array.length_toList]; exact IntsAre.length hit
  have lt : l < s.heap.objs.size := let ⟨_, e, _⟩ := hl; Heap.lt_size e
  have hD : (s.heap.push (setE w)).get? s.heap.objs.size = some (setE w) := Heap.get?_push_size _ rfl
  have tD : Shared.TypeIs { s with heap := s.heap.push (setE w) } (.ref s.heap.objs.size) "set" := ⟨_, hD, rfl⟩
  refine codeAny_call_builtin F.called_set.init.plain F.entry_set_init (check_set_init_1 tD ?_)
  have hl1 : (s.heap.push (setE w)).IsList l items := hl.push _
  obtain ⟨ol, hol, hcl, nl, hdl⟩ := id hl1
  obtain ⟨ocls, odict, odata, oslots⟩ := ol
  simp only at hcl hdl
  subst hcl
  subst hdl
  have f1 := F.sub_list_set
  have f2 := F.sub_list_frozenset
  have f3 : (Value.type "list" == Value.type "dict") = false := by decide
  unfold Builtin.«set.__init__» noKeywords Builtin.Frozenset.updateFrom
  generalize hPI : pyIter = PI
  wp_walk
  subst hPI
  refine wpAny_pyIter_list hl1 (wpAny_bind (wpAny_runValue ?_))
  have sz1 : (s.heap.push (setE w)).objs.size = s.heap.objs.size + 1 := Heap.size_push ..
  have out : s.heap.objs.size ∉ [(s.heap.push (setE w)).objs.size, l] := fun m => by
    rcases List.mem_cons.mp m with e | m
    · exact Nat.ne_of_lt (Nat.lt_succ_self _) (e.trans sz1)
    · exact Nat.ne_of_gt lt (List.mem_singleton.mp m)
  refine set_update_ints ((Walks.list (by simp [hh]) _ l (by rw [sz1]; exact Nat.ne_of_lt (Nat.lt_succ_of_lt lt)) items).toS) s.heap.objs.size out ns size hb (fun i v hv => ?_) (items.size - 0) 0 _ (by omega) (Nat.zero_le _) ⟨⟨_, Heap.get?_push_size _ rfl, rfl, rfl⟩, (hl1.push _)⟩ ⟨0, Nat.le_refl 0, setR_new_at (Heap.get?_push_of_some _ hD)⟩ fun s' c' mv hc' hS' => ?_
  · have hi : i < ns.length := by rw [← size]; exact (Array.getElem?_eq_some_iff.mp hv).1
    obtain ⟨t, e⟩ := IntsAre.int_at hit i v (by rw [Array.getElem?_toList]; exact hv)
    refine ⟨ns[i], t, List.getElem?_eq_getElem hi, ?_⟩
    rw [e, List.getD_eq_getElem?_getD, List.getElem?_eq_getElem hi] <;> rfl
  · have eg := mv.gens
    have ed := mv.drawn
    have eo := mv.os
    have eh := mv.heap
    obtain ⟨h', g2, d', tk', os'⟩ := s'
    simp only at eg ed eo eh hS'
    subst eg ed eo
    show wpAny _ _ _ _ _ _
    refine wpAny_pure ?_
    show wpAny _ _ (ret Value.none) _ _ _
    rw [size] at hc'
    refine wpAny_pure ⟨rfl, h', tk', c', rfl, hS', hc', fun b o e => eh b o ?_ (Heap.get?_push_of_some _ (Heap.get?_push_of_some _ e))⟩
    have := Heap.lt_size e
    intro m
    rcases List.mem_cons.mp m with e | m
    · exact Nat.ne_of_lt this e
    · exact Nat.ne_of_lt (Nat.lt_succ_of_lt this) ((List.mem_singleton.mp m).trans sz1)
theorem set_of_list {l : Addr} {items : Array Value} (ns : List Int) {Q : Value → Shared → Prop} (hh : A.handled = none) (hl : s.heap.IsList l items) (hit : IntsAre items.toList ns) (hb : ns.length + 1 < scanBound)
    (h : ∀ (h' : Heap) (tk c : Nat), SetR w h' s.heap.objs.size (fun j => decide (j ∈ ns)) c → c ≤ ns.length → (∀ b o, s.heap.get? b = some o → h'.get? b = some o) → Q (.ref s.heap.objs.size) { s with heap := h', toks := tk }) :
    wpAny (model P w) A (call (.type "set") [.ref l]) Q E s := by
  have size : items.size = ns.length := by rw [← Array.length_toList]; exact IntsAre.length hit
  have lt : l < s.heap.objs.size := let ⟨_, e, _⟩ := hl; Heap.lt_size e
  have hD : (s.heap.push (setE w)).get? s.heap.objs.size = some (setE w) := Heap.get?_push_size _ rfl
  have tD : Shared.TypeIs { s with heap := s.heap.push (setE w) } (.ref s.heap.objs.size) "set" := ⟨_, hD, rfl⟩
  obtain ⟨c0, tl, hmro⟩ := F.called_set.mro
  have made := F.called_set.made
  have sub := F.called_set.sub
  have noType := F.called_set.notType
  have can := F.called_set.canCreate
  have tc := F.typeCall_set_1 (.ref l)
  have li := F.called_set.init.lookup
  have bi := F.called_set.init.bind (.ref s.heap.objs.size)
  refine wpAny_call (codeAny_of_tree ?_)
  show wpAny _ _ (callAny (.type "set") _) _ _ _
  refine wpAny_pure ⟨Code.quiet_builtin _ (by decide +kernel), codeAny_builtin F.entry_type_call ?_⟩
  rw [Around.under_plain (weight_type_call_type "set" [.ref l] []) rfl]
  repeat (any_goals (first | assumption | wp_step))
  refine codeAny_mono (code_set_led1 (.ref l) (E := E) (Q₁ := fun obj s₁ => obj = .ref s.heap.objs.size ∧ s₁ = { s with heap := s.heap.push (setE w) }) ⟨rfl, rfl⟩) fun r s₁ hr => ?_
  match r, hr with
  | .ok (.ret obj), ⟨eo, es⟩ =>
    subst eo es
    repeat (any_goals (first | assumption | wp_step))
    refine codeAny_mono (set_init_list (E := E) ns (by simp [hh]) hl hit hb) fun r₂ s₂ hr₂ => ?_
    match r₂, hr₂ with
    | .ok (.ret r), ⟨er, h', tk, c', e2, hS, hc, kp⟩ =>
      subst er e2
      repeat (any_goals (first | assumption | wp_step))
      exact h _ _ _ hS hc kp
    | .error e, hr => exact hr
  | .error e, hr => exact hr
end
section
variable {X : Cx}
def rSetL (K : PySem.W.Frag) (w : World) : List V → Hp → VK → Prop := fun xs H Q => ∃ (a : Addr) (ns : List Int), xs = [.ref a] ∧ SqL K H a (ns.map V.int) ∧ ns.length ≤ 1000 ∧ ∀ p n, H p = none → n ≤ ns.length → Q (.ref p) (upd H p (SetO w p (fun j => decide (j ∈ ns)) n))
theorem cr_setL (hc : X.calm = true) : CallR X (.type "set") (rSetL X.K X.w) := by
  intro pins s σ H xs us Q I r h
  obtain ⟨a, ns, rfl, ha, small, q⟩ := h
  obtain ⟨its, rv, hl, hz⟩ := I.list ha
  rw [Vals.ref1 r]
  refine set_of_list ns (I.ok.hd hc) hl.isList (by simpa using intsAre_of rv) (by unfold scanBound; omega) fun h' tk c hS hle kp => ?_
  exact ⟨.ref s.heap.objs.size, _, I.laid (t' := tk) kp (Nat.le_refl _) (setO_new hS), rfl, q _ _ (I.hok.fresh (Nat.le_refl _)) hle⟩
end
end OwnR

set_option Elab.async false
set_option linter.all false
set_option maxRecDepth 100000
set_option maxHeartbeats 2000000
/-! A car of a pace that is not known: the 60 drives, and what stands of them. -/
namespace Sl
open PySem PySem.Spec L2 OwnR LamX
theorem sameNew {H : Hp} {p : Addr} (h : H p = none) (o : HO) : Same H (upd H p o) := fun b x e => by rw [upd_ne (ne_of_none e h)]; exact e
/-- the cars, and one of a pace -/
def zc (cars : List Car) (st : Nat) (k : Nat) : List Car := cars ++ [⟨"z", (st : Int), (k : Int)⟩]
theorem zc_names (cars : List Car) (st k : Nat) : names (zc cars st k) = names cars ++ [("z" : Str)] := by unfold zc names; rw [List.map_append]; rfl
theorem zc_mem (cars : List Car) (st k : Nat) : ("z" : Str) ∈ names (zc cars st k) := by rw [zc_names]; exact List.mem_append_right _ List.mem_cons_self
theorem zName : NameOk "z" := ⟨by decide +kernel, by decide +kernel, by decide +kernel⟩
theorem zc_ok {cars : List Car} (CO : CarsOk cars) (hz : ("z" : Str) ∉ names cars) (h9 : cars.length ≤ 9) {st k : Nat} (hs : st ≤ 1000000) (k1 : 1 ≤ k) (k2 : k ≤ 60) : CarsOk (zc cars st k) where
  all := fun c hc => by
    rcases List.mem_append.mp hc with h | h
    · exact CO.all c h
    · rw [List.mem_singleton.mp h]
      exact ⟨zName, by show (0 : Int) ≤ (st : Int); omega, by show (st : Int) ≤ 1000000; omega, by show (1 : Int) ≤ (k : Int); omega, by show (k : Int) ≤ 60; omega⟩
  nd := by
    have := zc_names cars st k
    unfold names at this
    rw [this]
    refine List.nodup_append.mpr ⟨CO.nd, by simp, fun a ha b hb => ?_⟩
    rw [List.mem_singleton.mp hb]
    intro e
    exact hz (e ▸ ha)
  few := by
    unfold zc
    rw [List.length_append]
    show cars.length + 1 ≤ 10
    omega
theorem zc_at {H : Hp} {t q : Addr} {ts : List Addr} {cars : List Car} {st k : Nat} (h2 : ts.length = cars.length) (h3 : ∀ (i : Nat) (t : Addr) (c : Car), ts[i]? = some t → cars[i]? = some c → H t = some (.tup c.vs))
    (ht : H t = some (.tup [.str "z", .int (st : Nat), .int (k : Nat)])) (hq : H q = some (.tup (ts.map V.ref ++ [.ref t]))) : CarsAt H q (zc cars st k) := by
  refine ⟨ts ++ [t], by rw [hq, List.map_append]; rfl, by unfold zc; rw [List.length_append, List.length_append, h2]; rfl, fun i b c e1 e2 => ?_⟩
  unfold zc at e2
  rcases Nat.lt_or_ge i cars.length with lt | ge
  · rw [List.getElem?_append_left (by omega)] at e1
    rw [List.getElem?_append_left lt] at e2
    exact h3 i b c e1 e2
  · rw [List.getElem?_append_right (by omega)] at e1
    rw [List.getElem?_append_right ge] at e2
    have : i - cars.length = 0 := by
      have := (List.getElem?_eq_some_iff.mp e2).1
      simp at this
      omega
    rw [h2, this] at e1
    rw [this] at e2
    cases e1
    cases e2
    exact ht
section
variable {P : Program} {w : World} {K : PySem.W.Frag} {mg : Str → Option Value} {base : Heap}
/-! ### check_new_name -/
def spNewName : Sp := fun vs H Q _ => ∃ (a : Addr) (cars : List Car) (n : Str), vs = [.ref a, .str n] ∧ CarsAt H a cars ∧ CarsOk cars ∧ NameOk n ∧ n ∉ names cars ∧ ∀ H', Same H H' → Q .non H'
def nNewName : List Str := ["cars", "name", "known", "start", "pace"]
theorem scNewName : FnScope nNewName ["cars", "name"] (defScope sCheckNewName) := ⟨rfl, rfl, rfl, by decide +kernel, rfl, by decide +kernel, by decide +kernel⟩
theorem ok_newName {f fN : Addr} {fd dN : FuncData} (F : Fun K "check_new_name" "check_new_name" sCheckNewName f fd) (BN : Fb K mg "is_name" sIsName ["value"] fN dN) (GN : FnOk P w K mg base CX0 1 fN dN ["value"] spIsName) : FnOk P w K mg base CX0 2 f fd ["cars", "name"] spNewName := by
  refine F.ok scNewName (fun vs H Q E h => ?_) (fun cdv A outer s H vs Q E hr h => ?_)
  · obtain ⟨a, cars, n, rfl, _⟩ := h
    rfl
  · obtain ⟨a, cars, n, rfl, hC, CO, ho, hn, k⟩ := h
    have nd := scNewName.nd
    refine ⟨_, pss_one (ps_if (PW.pt (pw_or (pt_not (pt_val (pe_call GN hr (by rfl) BN.at_ BN.fn.kp BN.bd .nil pass0 (pa_cons (pv 1) pa_nil)))) (pw_or1 (pt_cmpR op_in_seq (pv 1) (pe_lc (own := [("known", 2), ("start", 3), ("pace", 4)]) (g := gTup K 3 (gCons (gName 2) (gCons (gName 3) (gCons (gName 4) gNil)))) (tt := tYes) (te := tVar 2) (by rfl) nd (pi_tup (pv 0)) (blkOk_by (N := nNewName) (sc := defScope sCheckNewName) (by decide +kernel))
          (fun _ _ _ _ _ => pg_tup rfl (pgs_cons (pg_name (i := 2) nd rfl (Or.inl rfl)) (pgs_cons (pg_name (i := 3) nd rfl (Or.inl rfl)) (pgs_cons (pg_name (i := 4) nd rfl (Or.inl rfl)) pgs_nil)))) (fun _ _ _ _ _ => pts_nil) (fun _ _ _ _ _ => pv 2)) (by rfl))))) (pss_one ps_never) pss_nil), ?_⟩
    obtain ⟨ts, h1, h2, h3⟩ := hC
    have hl : (ts.map V.ref).length = cars.length := by rw [List.length_map, h2]
    refine ⟨_, rfl, n, rfl, ho, fun H0 s0 => ⟨true, rfl, iteF ?_⟩⟩
    have h1 := s0 _ _ h1
    refine ⟨_, rfl, _, rfl, a, rfl, ⟨_, SqT.of h1⟩, fun D hD => ?_⟩
    refine lc_it walk_tup (fun i H1 => Same H0 H1 ∧ H1 D = some (.lst (((cars.take i).map (·.name)).map V.str)))
      ⟨sameNew hD _, upd_same⟩ (fun i H1 _ ⟨k1, _⟩ => SqT.of (k1 _ _ h1)) ?_ ?_
    · rintro i y Hz H1 hi ⟨k1, hD1⟩ ⟨e, hy⟩
      subst e
      obtain ⟨t, ht, rfl⟩ : ∃ t, ts[i]? = some t ∧ y = V.ref t := by
        rw [List.getElem?_map] at hy
        obtain ⟨t, z1, z2⟩ := Option.map_eq_some_iff.mp hy
        exact ⟨t, z1, z2.symm⟩
      rw [hl] at hi
      obtain ⟨c, hc⟩ : ∃ c, cars[i]? = some c := ⟨_, List.getElem?_eq_getElem hi⟩
      have few := CO.few
      refine ⟨t, _, rfl, SqT.of (k1 _ _ (s0 _ _ (h3 i t c ht hc))), rfl, _, _, rfl, _, _, rfl, _, _, rfl, rfl, rfl, yes_of ?_⟩
      refine ⟨_, rfl, _, hD1, by rw [List.length_map, List.length_map, List.length_take]; exact Nat.le_of_lt (small1000 (by omega)), fun b o e => by rw [upd_ne (ne_of_none e hD)]; exact k1 _ _ e, ?_⟩
      rw [upd_same, tk1 hc, List.map_append, List.map_append]
      rfl
    · rintro H1 ⟨k1, hD1⟩
      rw [hl, List.take_length] at hD1
      refine ⟨D, _, rfl, .inl (SqL.of hD1), rfl, flat_strs _, ?_⟩
      have : inV (V.str n) ((cars.map (·.name)).map V.str) = false := by rw [inV_str]; exact decide_eq_false hn
      rw [this]
      exact ⟨false, rfl, iteF (k _ (s0.trans k1))⟩
end
end Sl

set_option Elab.async false
set_option linter.all false
set_option maxRecDepth 100000
set_option maxHeartbeats 4000000
namespace Sl
open PySem PySem.Spec L2 OwnR LamX
/-! ### what the object holds -/
def hf (n : Nat) (cl dd hl : Addr) : List (Str × V) := [("_name", .str "z"), ("_last_place", .int (n : Nat)), ("_candidates", .ref cl), ("_drives", .ref dd), ("_history", .ref hl)]
theorem nl_ : ¬ ("_name" : Str) = "_last_place" := by decide +kernel
theorem nc_ : ¬ ("_name" : Str) = "_candidates" := by decide +kernel
theorem nd_ : ¬ ("_name" : Str) = "_drives" := by decide +kernel
theorem nh_ : ¬ ("_name" : Str) = "_history" := by decide +kernel
theorem lc_ : ¬ ("_last_place" : Str) = "_candidates" := by decide +kernel
theorem ld_ : ¬ ("_last_place" : Str) = "_drives" := by decide +kernel
theorem lh_ : ¬ ("_last_place" : Str) = "_history" := by decide +kernel
theorem cd_ : ¬ ("_candidates" : Str) = "_drives" := by decide +kernel
theorem ch_ : ¬ ("_candidates" : Str) = "_history" := by decide +kernel
theorem dh_ : ¬ ("_drives" : Str) = "_history" := by decide +kernel
theorem putF_ne {f g : Str} {v x : V} {r : List (Str × V)} (h : ¬ g = f) : putF f v ((g, x) :: r) = (g, x) :: putF f v r := by
  show (if g = f then _ else _) = _
  rw [if_neg h]
theorem putF_eq {f : Str} {v x : V} {r : List (Str × V)} : putF f v ((f, x) :: r) = (f, v) :: r := by
  show (if f = f then _ else _) = _
  rw [if_pos rfl]
theorem put2 (n : Nat) : putF "_last_place" (.int (n : Nat)) ([("_name", V.str "z")] : List (Str × V)) = ([("_name", V.str "z"), ("_last_place", .int (n : Nat))] : List (Str × V)) := by rw [putF_ne nl_]; rfl
theorem put3 (n : Nat) (cl : Addr) : putF "_candidates" (.ref cl) ([("_name", V.str "z"), ("_last_place", .int (n : Nat))] : List (Str × V)) = ([("_name", V.str "z"), ("_last_place", .int (n : Nat)), ("_candidates", .ref cl)] : List (Str × V)) := by rw [putF_ne nc_, putF_ne lc_]; rfl
theorem put4 (n : Nat) (cl dd : Addr) : putF "_drives" (.ref dd) ([("_name", V.str "z"), ("_last_place", .int (n : Nat)), ("_candidates", .ref cl)] : List (Str × V)) = ([("_name", V.str "z"), ("_last_place", .int (n : Nat)), ("_candidates", .ref cl), ("_drives", .ref dd)] : List (Str × V)) := by rw [putF_ne nd_, putF_ne ld_, putF_ne cd_]; rfl
theorem put5 (n : Nat) (cl dd hl : Addr) : putF "_history" (.ref hl) ([("_name", V.str "z"), ("_last_place", .int (n : Nat)), ("_candidates", .ref cl), ("_drives", .ref dd)] : List (Str × V)) = hf n cl dd hl := by rw [putF_ne nh_, putF_ne lh_, putF_ne ch_, putF_ne dh_]; rfl
theorem putC (n : Nat) (cl dd hl c2 : Addr) : putF "_candidates" (.ref c2) (hf n cl dd hl) = hf n c2 dd hl := by unfold hf; rw [putF_ne nc_, putF_ne lc_, putF_eq]
theorem putH (n : Nat) (cl dd hl h2 : Addr) : putF "_history" (.ref h2) (hf n cl dd hl) = hf n cl dd h2 := by unfold hf; rw [putF_ne nh_, putF_ne lh_, putF_ne ch_, putF_ne dh_, putF_eq]
theorem lk_eq {f : Str} {v : V} {r : List (Str × V)} : List.lookup f ((f, v) :: r) = some v := by rw [List.lookup_cons]; simp
theorem lk_ne {f g : Str} {v : V} {r : List (Str × V)} (h : ¬ g = f) : List.lookup f ((g, v) :: r) = List.lookup f r := by
  rw [List.lookup_cons]
  have : (f == g) = false := by simpa using fun e => h (Eq.symm e)
  rw [this]
theorem hf_n (n : Nat) (cl dd hl : Addr) : (hf n cl dd hl).lookup ("_name" : Str) = some (.str "z") := lk_eq
theorem hf_l (n : Nat) (cl dd hl : Addr) : (hf n cl dd hl).lookup ("_last_place" : Str) = some (.int (n : Nat)) := by unfold hf; rw [lk_ne nl_, lk_eq]
theorem hf_c (n : Nat) (cl dd hl : Addr) : (hf n cl dd hl).lookup ("_candidates" : Str) = some (.ref cl) := by unfold hf; rw [lk_ne nc_, lk_ne lc_, lk_eq]
theorem hf_d (n : Nat) (cl dd hl : Addr) : (hf n cl dd hl).lookup ("_drives" : Str) = some (.ref dd) := by unfold hf; rw [lk_ne nd_, lk_ne ld_, lk_ne cd_, lk_eq]
theorem hf_h (n : Nat) (cl dd hl : Addr) : (hf n cl dd hl).lookup ("_history" : Str) = some (.ref hl) := by unfold hf; rw [lk_ne nh_, lk_ne lh_, lk_ne ch_, lk_ne dh_, lk_eq]
theorem hf_no (n : Nat) (cl dd hl : Addr) {m : Str} (h1 : ¬ ("_name" : Str) = m) (h2 : ¬ ("_last_place" : Str) = m) (h3 : ¬ ("_candidates" : Str) = m) (h4 : ¬ ("_drives" : Str) = m) (h5 : ¬ ("_history" : Str) = m) : (hf n cl dd hl).lookup m = none := by
  unfold hf
  rw [lk_ne h1, lk_ne h2, lk_ne h3, lk_ne h4, lk_ne h5]
  rfl
/-- all but what stands at p -/
def mask (p : Addr) (H : Hp) : Hp := fun b => if b = p then none else H b
theorem mask_ne {p b : Addr} {H : Hp} (h : b ≠ p) : mask p H b = H b := by unfold mask; rw [if_neg h]
theorem mask_some {p b : Addr} {H : Hp} {o : HO} (h : mask p H b = some o) : b ≠ p ∧ H b = some o := by
  unfold mask at h
  by_cases e : b = p
  · rw [if_pos e] at h
    cases h
  · rw [if_neg e] at h
    exact ⟨e, h⟩
theorem mask_upd {p : Addr} {H : Hp} (o : HO) : ExtN (mask p H) (upd H p o) := fun b u e _ => by
  obtain ⟨n, e⟩ := mask_some e
  rw [upd_ne n]
  exact e
theorem mask_ext {p : Addr} {H H' : Hp} (e : ExtN H H') : ExtN (mask p H) (mask p H') := fun b u h n => by
  obtain ⟨ne, h⟩ := mask_some h
  rw [mask_ne ne]
  exact e _ _ h n
theorem DA.mask {C : Addr} {H : Hp} {p d : Addr} {secs : List Sec} {cars : List Car} {CH dx : Addr} {fs : List (Str × V)} (h : DA C H d secs cars) (hp : H p = some (.ins CH dx fs)) (ne : d ≠ p) : DA C (mask p H) d secs cars := by
  obtain ⟨H0, W, D⟩ := h
  have nl : ∀ {b : Addr} {o : HO}, H b = some o → o ≠ .ins CH dx fs → Sl.mask p H b = some o := fun {b o} e n => by rw [mask_ne (ne_of e hp n)]; exact e
  refine ⟨fun _ => none, W, ?_⟩
  exact {
    ext := fun _ _ z => nomatch z
    ins := by rw [mask_ne ne]; exact D.ins
    sec := let ⟨ts, a, b, c⟩ := D.sec; ⟨ts, nl a (fun z => nomatch z), b, fun i t s e1 e2 => nl (c i t s e1 e2) fun z => nomatch z⟩
    pac := nl D.pac fun z => nomatch z
    lt := nl D.lt fun z => nomatch z
    ltl := D.ltl
    lo := nl D.lo fun z => nomatch z
    lol := D.lol
    ll := nl D.ll fun z => nomatch z
    lll := D.lll
    tk := fun k d h => let ⟨kv, a, b⟩ := D.tk k d h; ⟨kv, nl a (fun z => nomatch z), b⟩
    od := fun k d h => nl (D.od k d h) fun z => nomatch z
    ld := fun k d h => let ⟨kv, a, b⟩ := D.ld k d h; ⟨kv, nl a (fun z => nomatch z), b⟩
    newp := fun _ _ z => nomatch z
    newt := fun _ _ z => nomatch z
    newo := fun _ _ z => nomatch z
    newl := fun _ _ z => nomatch z
    newg := fun _ _ _ _ z => nomatch z
    nto := D.nto
    ntl := D.ntl
    nol := D.nol
    odn := D.odn }
theorem mk_drive {CR C : Addr} {T : List (Addr × Str)} {H : Hp} {p a dv dx : Addr} {secs : List Sec} {cars : List Car} (rd : RoadAt CR H p secs) (ct : CarsAt H a cars) (SO : SecsOk secs) (CO : CarsOk cars) (hT : Tabs T H) (hdv : H dv = none) (hdx : H dx = none) {Q : VK} {E : XK}
    (k : ∀ H' W, ExtN H H' → Tabs T H' → DP C H H' dv secs cars secs.length W → Q .non H') : spDInit CR C T [.ref dv, .ref p, .ref a] (upd (upd H dx (.own dv)) dv (.ins C dx [])) Q E := by
  have S2 : Same H (upd (upd H dx (.own dv)) dv (.ins C dx [])) := fun b o e => by rw [upd_ne (ne_of_none e hdv), upd_ne (ne_of_none e hdx)]; exact e
  exact ⟨H, dv, dx, p, a, secs, cars, rfl, upd_same, S2, hdv, rd, ct, SO, CO, hT, fun H' W DW T' => k H' W DW.ext T' DW⟩
/-- a drive, none of whose parts stands at D -/
def DX (C : Addr) (H : Hp) (D d : Addr) (secs : List Sec) (cars : List Car) : Prop := ∃ W, DP C (fun _ => none) H d secs cars secs.length W ∧ (∀ e ∈ W.lds, e ≠ D) ∧ d ≠ D
theorem DX.da {C : Addr} {H : Hp} {D d : Addr} {secs : List Sec} {cars : List Car} (h : DX C H D d secs cars) : DA C H d secs cars := let ⟨W, D, _⟩ := h; ⟨_, W, D⟩
theorem DX.ext {C : Addr} {H H' : Hp} {D d : Addr} {secs : List Sec} {cars : List Car} (h : DX C H D d secs cars) (e : ExtN H H') : DX C H' D d secs cars := let ⟨W, P, a⟩ := h; ⟨W, P.step e, a⟩
theorem DX.of {C : Addr} {H H' : Hp} {D d : Addr} {secs : List Sec} {cars : List Car} {W : DW} {kv : List (Key × V)} (P : DP C H H' d secs cars secs.length W) (hD : H D = some (.dK kv)) (ne : d ≠ D) : DX C H' D d secs cars :=
  ⟨W, { P with ext := (fun _ _ z => nomatch z), newp := (fun _ _ z => nomatch z), newt := (fun _ _ z => nomatch z), newo := (fun _ _ z => nomatch z), newl := (fun _ _ z => nomatch z), newg := (fun _ _ _ _ z => nomatch z) }, fun e he z => P.newg e he _ _ hD (fun _ z => nomatch z) z.symm, ne⟩
theorem DX.put {C : Addr} {H : Hp} {D d : Addr} {secs : List Sec} {cars : List Car} {kv : List (Key × V)} (h : DX C H D d secs cars) (hz : ("z" : Str) ∈ names cars) (hD : H D = some (.dK kv)) (hk : ∀ n : Str, valV kv (Sum.inr n : Key) = none) (o : HO) : DX C (upd H D o) D d secs cars := by
  obtain ⟨W, P, lds, ne⟩ := h
  have nl : ∀ {b : Addr} {u : HO}, H b = some u → u ≠ .dK kv → upd H D o b = some u := fun {b u} e n => by rw [upd_ne (ne_of e hD n)]; exact e
  have same : ∀ {b : Addr} {kv2 : List (Key × V)}, H b = some (.dK kv2) → valV kv2 (Sum.inr ("z" : Str) : Key) ≠ none → upd H D o b = some (.dK kv2) := fun {b kv2} e n => by
    by_cases eb : b = D
    · subst eb
      rw [hD] at e
      cases e
      exact absurd (hk _) n
    · rw [upd_ne eb]
      exact e
  refine ⟨W, { P with ext := (fun _ _ z => nomatch z), ins := ?_, sec := ?_, pac := ?_, lt := ?_, lo := ?_, ll := ?_, tk := ?_, od := ?_, ld := ?_ }, lds, ne⟩
  · rw [upd_ne ne]; exact P.ins
  · obtain ⟨ts, a, b, c⟩ := P.sec
    exact ⟨ts, nl a (fun z => nomatch z), b, fun i t s e1 e2 => nl (c i t s e1 e2) fun z => nomatch z⟩
  · refine same P.pac fun z => ?_
    have := paceK_some cars "z"
    rw [z, decide_eq_true hz] at this
    cases this
  · exact nl P.lt fun z => nomatch z
  · exact nl P.lo fun z => nomatch z
  · exact nl P.ll fun z => nomatch z
  · intro k b h
    obtain ⟨kv2, a, c⟩ := P.tk k b h
    exact ⟨kv2, same a (by rw [c _ hz]; exact fun z => nomatch z), c⟩
  · exact fun k b h => nl (P.od k b h) fun z => nomatch z
  · intro k b h
    obtain ⟨kv2, a, c⟩ := P.ld k b h
    exact ⟨kv2, by rw [upd_ne (lds b (List.mem_of_getElem? h))]; exact a, c⟩
/-- the drives, by the pace -/
def DrvAt (C : Addr) (H : Hp) (p dd : Addr) (secs : List Sec) (cars : List Car) (st : Nat) : Prop := ∃ kv, H dd = some (.dK kv) ∧ ∀ k : Nat, 1 ≤ k → k ≤ 60 → ∃ d, valV kv (Sum.inl ((k : Nat) : Int) : Key) = some (.ref d) ∧ d ≠ p ∧ DA C H d secs (zc cars st k)
theorem DrvAt.ext {C : Addr} {H H' : Hp} {p dd : Addr} {secs : List Sec} {cars : List Car} {st : Nat} (h : DrvAt C H p dd secs cars st) (e : ExtN H H') : DrvAt C H' p dd secs cars st := by
  obtain ⟨kv, h1, h2⟩ := h
  refine ⟨kv, e _ _ h1 (fun _ z => nomatch z), fun k k1 k2 => ?_⟩
  obtain ⟨d, d1, d2, d3⟩ := h2 k k1 k2
  exact ⟨d, d1, d2, d3.ext e⟩
theorem DrvAt.upd {C : Addr} {H : Hp} {p dd : Addr} {secs : List Sec} {cars : List Car} {st : Nat} {CH dx : Addr} {fs : List (Str × V)} (h : DrvAt C H p dd secs cars st) (hp : H p = some (.ins CH dx fs)) (o : HO) : DrvAt C (upd H p o) p dd secs cars st := by
  obtain ⟨kv, h1, h2⟩ := h
  refine ⟨kv, by rw [upd_ne (ne_of h1 hp (by intro z; cases z))]; exact h1, fun k k1 k2 => ?_⟩
  obtain ⟨d, d1, d2, d3⟩ := h2 k k1 k2
  exact ⟨d, d1, d2, (d3.mask hp d2).ext (mask_upd o)⟩
theorem TupsAt.extN {H H' : Hp} {a : Addr} {vss : List (List V)} (h : TupsAt H a vss) (e : ExtN H H') : TupsAt H' a vss := by
  obtain ⟨ts, h1, h2, h3⟩ := h
  exact ⟨ts, ExtN.lst e h1, h2, fun i t v e1 e2 => ExtN.tup e (h3 i t v e1 e2)⟩
structure HPat (CH C : Addr) (H : Hp) (p dx : Addr) (secs : List Sec) (cars : List Car) (st : Nat) (L : List Nat) (hist : List (List V)) (cl dd hl : Addr) : Prop where
  ins : H p = some (.ins CH dx (hf secs.length cl dd hl))
  cd : H cl = some (.lst (L.map fun k => V.int ((k : Nat) : Int)))
  dr : DrvAt C H p dd secs cars st
  hs : TupsAt H hl hist
  pc : ∀ k ∈ L, 1 ≤ k ∧ k ≤ 60
  few : L.length ≤ 60
theorem HPat.ext {CH C : Addr} {H H' : Hp} {p dx : Addr} {secs : List Sec} {cars : List Car} {st : Nat} {L : List Nat} {hist : List (List V)} {cl dd hl : Addr} (h : HPat CH C H p dx secs cars st L hist cl dd hl) (e : ExtN H H') : HPat CH C H' p dx secs cars st L hist cl dd hl :=
  ⟨e _ _ h.ins (fun _ z => nomatch z), e _ _ h.cd (fun _ z => nomatch z), h.dr.ext e, h.hs.extN e, h.pc, h.few⟩
/-- what the program asks of the class -/
structure HidT (K : PySem.W.Frag) (CH : Addr) : Prop where
  cl : Cls K CH
  nn : NoAttr K CH "_name"
  nl : NoAttr K CH "_last_place"
  nc : NoAttr K CH "_candidates"
  nd : NoAttr K CH "_drives"
  nh : NoAttr K CH "_history"
section
variable {P : Program} {w : World} {K : PySem.W.Frag} {mg : Str → Option Value} {base : Heap}
def paces60 : List Nat := (List.range 60).map (· + 1)
def spHInit (CR CH C : Addr) (T : List (Addr × Str)) : Sp := fun vs H Q _ => ∃ (H0 : Hp) (p dx r a : Addr) (secs : List Sec) (cars : List Car) (st : Nat), vs = [.ref p, .ref r, .ref a, .str "z", .int (st : Nat)] ∧ H p = some (.ins CH dx []) ∧ Same H0 H ∧ H0 p = none ∧ RoadAt CR H0 r secs ∧ CarsAt H0 a cars ∧ SecsOk secs ∧ CarsOk cars ∧ ("z" : Str) ∉ names cars ∧ cars.length ≤ 9 ∧ st ≤ 1000000 ∧ Tabs T H0 ∧
  ∀ H' cl dd hl, ExtN H0 H' → Tabs T H' → HPat CH C H' p dx secs cars st paces60 [] cl dd hl → Q .non H'
def nHInit : List Str := ["self", "road", "cars", "name", "start", "pace"]
theorem scHInit : FnScope nHInit ["self", "road", "cars", "name", "start"] (defScope sHiddenPaceInit) := ⟨rfl, rfl, rfl, by decide +kernel, rfl, by decide +kernel, by decide +kernel⟩
theorem ok_hInit {f fK fN fB fI fP CR CH C lp kp pp : Addr} {fd dK dN dB dI dP : FuncData} {T : List (Addr × Str)} (F : Fun K "__init__" "HiddenPace.__init__" sHiddenPaceInit f fd) (M : Mg mg) (HT : HidT K CH) (R : DriveT K mg C) (RR : RoadT K w mg CR lp kp)
    (BK : Fb K mg "check_cars" sCheckCars ["cars"] fK dK) (GK : FnOk P w K mg base CX0 3 fK dK ["cars"] spCheckCars)
    (BN : Fb K mg "check_new_name" sCheckNewName ["cars", "name"] fN dN) (GN : FnOk P w K mg base CX0 2 fN dN ["cars", "name"] spNewName)
    (BB : Fb K mg "is_number" sIsNumber ["value", "least", "most"] fB dB) (GB : FnOk P w K mg base CX0 1 fB dB ["value", "least", "most"] spIsNumber)
    (MI : Mk K C fI) (bI : Binds K dI ["self", "road", "cars"] []) (GI : FnOk P w K mg base CX0 5 fI dI ["self", "road", "cars"] (spDInit CR C T))
    (PO : PropOf K CR "sections" pp fP) (bP : Binds K dP ["self"] []) (GP : FnOk P w K mg base CX0 1 fP dP ["self"] (getSp CR "_sections")) : FnOk P w K mg base CX0 7 f fd ["self", "road", "cars", "name", "start"] (spHInit CR CH C T) := by
  obtain ⟨tc, MC⟩ := M.mostCars
  obtain ⟨ts0, MS⟩ := M.latestStart
  obtain ⟨tp0, MP⟩ := M.slowestPace
  refine F.ok scHInit (fun vs H Q E h => ?_) (fun cdv A outer s H vs Q E hr h => ?_)
  · obtain ⟨H0, p, dx, r, a, secs, cars, st, rfl, _⟩ := h
    rfl
  · obtain ⟨H0, p, dx, r, a, secs, cars, st, rfl, hp, s0, p0, hR, hC, SO, CO, hz, h9, hst, hT, k⟩ := h
    have nd := scHInit.nd
    have room : ∀ n, n ≤ 6 → Room n (A.deeper (PyProof.Rows.envOfC "HiddenPace.__init__" (defScope sHiddenPaceInit) s.heap.objs.size f cdv)) := fun n h => hr.mono h
    have hr1 := room 1 (by decide)
    have hr2 := room 2 (by decide)
    have hr3 := room 3 (by decide)
    refine ⟨_, pss_cons (ps_expr (pe_call GK hr3 (by rfl) BK.at_ BK.fn.kp BK.bd .nil pass0 (pa_cons (pv 2) pa_nil)))
      (pss_cons (ps_expr (pe_call GN hr2 (by rfl) BN.at_ BN.fn.kp BN.bd .nil pass0 (pa_cons (pv 2) (pa_cons (pv 3) pa_nil))))
      (pss_cons (ps_if (pt_not (pt_val (pe_call GB hr1 (by rfl) BB.at_ BB.fn.kp BB.bd .nil pass0 (pa_cons (pv 4) (pa_cons pe_int (pa_cons (pe_glob (v := .int 1000000) (by rfl) MS ⟨_, rfl⟩) pa_nil)))))) (pss_one ps_never) pss_nil)
      (pss_cons (ps_if (pt_cmpR op_eq (pe_callB call_len_seq (by rfl) M.len boot_len (pa_cons (pv 2) pa_nil)) (pe_glob (v := .int 10) (by rfl) MC ⟨_, rfl⟩) (nomark _)) (pss_one ps_never) pss_nil)
      (pss_cons (ps_fld (pv 0) (pv 3) rfl)
      (pss_cons (ps_fld (pv 0) (pe_callB call_len_seq (by rfl) M.len boot_len (pa_cons (pe_prop (pv 1) RR.cl PO GP hr2 bP .nil pass0 rfl) pa_nil)) rfl)
      (pss_cons (ps_fld (pv 0) (pe_listRg (by rfl) (by rfl) M.list (prg_2 (by rfl) M.range pe_int (pe_op op_add (pe_glob (v := .int 60) (by rfl) MP ⟨_, rfl⟩) pe_int))) rfl)
      (pss_cons (ps_fld (pv 0) (pe_dc (own := [("pace", 5)]) (g := gName 5) (tt := tYes) (tk := tVar 5) (tv := tMake C (spDInit CR C T) [] L2.E0 (tCons (tVar 1) (tCons (tOp (rCatA K) (tVar 2) (tTup (tCons (tTup (tCons (tVar 3) (tCons (tVar 4) (tCons (tVar 5) tNil)))) tNil))) tNil))) (by rfl) nd (pi_list (pe_fld (pv 0) rfl)) (blkOk_by (N := nHInit) (sc := defScope sHiddenPaceInit) (by decide +kernel))
          (fun _ _ _ _ _ => pg_name (i := 5) nd rfl (Or.inl rfl)) (fun _ _ _ _ _ => pts_nil) (fun _ _ _ _ _ => pv 5) (fun _ _ _ _ _ => pe_make MI GI hr (by rfl) R.mgC bI .nil pass0 (pa_cons (pv 1) (pa_cons (pe_op op_catA (pv 2) (pe_tup (pa_cons (pe_tup (pa_cons (pv 3) (pa_cons (pv 4) (pa_cons (pv 5) pa_nil)))) pa_nil))) pa_nil)))) rfl)
      (pss_one (ps_fld (pv 0) (pe_lst pa_nil) rfl))))))))), ?_⟩
    obtain ⟨cs, c1, c2, c3⟩ := id hC
    obtain ⟨dr, tr, ur, r1, rs, ru⟩ := id hR
    obtain ⟨xs, x1, x2, x3⟩ := id rs
    have hcs : (cs.map V.ref).length = cars.length := by rw [List.length_map, c2]
    have hxs : (xs.map V.ref).length = secs.length := by rw [List.length_map, x2]
    refine ⟨_, rfl, a, cars, rfl, hC.same s0, CO, fun H1 s1 => ?_⟩
    refine ⟨_, rfl, _, rfl, a, cars, "z", rfl, hC.same (s0.trans s1), CO, zName, hz, fun H2 s2 => ?_⟩
    have s02 : Same H0 H2 := s0.trans (s1.trans s2)
    have hp2 := s2 _ _ (s1 _ _ hp)
    refine ⟨_, rfl, (st : Int), 0, 1000000, rfl, ?_⟩
    rw [show (decide ((0 : Int) ≤ (st : Int)) && decide ((st : Int) ≤ 1000000)) = true by rw [decide_eq_true (by omega), decide_eq_true (by omega)]; rfl]
    refine ⟨_, rfl, iteF ?_⟩
    refine ⟨_, rfl, a, _, rfl, .inr (SqT.of (s02 _ _ c1)), rfl, _, rfl, ?_⟩
    rw [hcs, decide_eq_false (by intro z; have := V.int.inj z; omega)]
    refine iteF ?_
    -- its name
    refine ⟨_, rfl, _, rfl, p, CH, dx, _, rfl, hp2, HT.cl, HT.nn, (by show 0 < 1000; decide), ?_⟩
    have old3 : ∀ b o, H0 b = some o → upd H2 p (.ins CH dx [("_name", V.str "z")]) b = some o := fun b o e => by rw [upd_ne (ne_of_none e p0)]; exact s02 _ _ e
    have hp3 : upd H2 p (.ins CH dx [("_name", V.str "z")]) p = some (.ins CH dx [("_name", V.str "z")]) := upd_same
    show tSeq _ _ _ _ (upd H2 p (.ins CH dx [("_name", V.str "z")]))
    generalize upd H2 p (.ins CH dx [("_name", V.str "z")]) = H3 at old3 hp3 ⊢
    -- its last place
    refine ⟨_, rfl, r, dr, _, rfl, old3 _ _ r1, r, dr, _, _, rfl, old3 _ _ r1, rf_sections _ _, tr, _, rfl, .inr (SqT.of (old3 _ _ x1)), _, rfl, p, CH, dx, _, rfl, hp3, HT.cl, HT.nl, (by show 1 < 1000; decide), ?_⟩
    rw [hxs, put2]
    have old4 : ∀ b o, H0 b = some o → upd H3 p (.ins CH dx [("_name", V.str "z"), ("_last_place", .int (secs.length : Nat))]) b = some o := fun b o e => by rw [upd_ne (ne_of_none e p0)]; exact old3 _ _ e
    have hp4 : upd H3 p (.ins CH dx [("_name", V.str "z"), ("_last_place", .int (secs.length : Nat))]) p = some (.ins CH dx [("_name", V.str "z"), ("_last_place", .int (secs.length : Nat))]) := upd_same
    generalize upd H3 p (.ins CH dx [("_name", V.str "z"), ("_last_place", .int (secs.length : Nat))]) = H4 at old4 hp4 ⊢
    -- its candidates
    refine ⟨_, _, rfl, rfl, 1, 61, rfl, rfl, RgOk.of_le (by decide) (by decide) (by decide) (by decide), fun cl hcl => ?_⟩
    rw [show rgV 1 61 = paces60.map (fun k => V.int ((k : Nat) : Int)) from by decide +kernel]
    have ncl : cl ≠ p := (ne_of_none hp4 hcl).symm
    refine ⟨_, rfl, p, CH, dx, _, rfl, by rw [upd_ne ncl.symm]; exact hp4, HT.cl, HT.nc, (by show 2 < 1000; decide), ?_⟩
    rw [put3]
    have old5 : Same H0 (upd (upd H4 cl (.lst (paces60.map fun k => V.int ((k : Nat) : Int)))) p (.ins CH dx [("_name", V.str "z"), ("_last_place", .int (secs.length : Nat)), ("_candidates", .ref cl)])) := fun b o e => by
      have := old4 _ _ e
      rw [upd_ne (ne_of_none e p0), upd_ne (ne_of_none this hcl)]
      exact this
    have hp5 : upd (upd H4 cl (.lst (paces60.map fun k => V.int ((k : Nat) : Int)))) p (.ins CH dx [("_name", V.str "z"), ("_last_place", .int (secs.length : Nat)), ("_candidates", .ref cl)]) p = some (.ins CH dx [("_name", V.str "z"), ("_last_place", .int (secs.length : Nat)), ("_candidates", .ref cl)]) := upd_same
    have hcl5 : upd (upd H4 cl (.lst (paces60.map fun k => V.int ((k : Nat) : Int)))) p (.ins CH dx [("_name", V.str "z"), ("_last_place", .int (secs.length : Nat)), ("_candidates", .ref cl)]) cl = some (.lst (paces60.map fun k => V.int ((k : Nat) : Int))) := by rw [upd_ne ncl, upd_same]
    generalize upd (upd H4 cl (.lst (paces60.map fun k => V.int ((k : Nat) : Int)))) p (.ins CH dx [("_name", V.str "z"), ("_last_place", .int (secs.length : Nat)), ("_candidates", .ref cl)]) = H5 at old5 hp5 hcl5 ⊢
    have T5 : Tabs T H5 := hT.ext old5
    have R5 := hR.ext (ExtN.same old5)
    clear old4 hp4 hcl old3 hp3 s02 hp2 s1 s2
    refine ⟨_, rfl, p, CH, dx, _, .ref cl, rfl, hp5, HT.cl, HT.nc, by rw [lk_ne nc_, lk_ne lc_, lk_eq], cl, rfl, ⟨_, SqL.of hcl5⟩, fun D hD => ?_⟩
    have len60 : (paces60.map fun k => V.int ((k : Nat) : Int)).length = 60 := by decide +kernel
    have nDp : D ≠ p := (ne_of_none hp5 hD).symm
    refine dc_it walk_list (fun i H => ExtN H5 H ∧ Tabs T H ∧ ∃ kv : List (Key × V), H D = some (.dK kv) ∧ kv.length ≤ i ∧ (∀ n : Str, valV kv (Sum.inr n : Key) = none) ∧ ∀ k : Nat, 1 ≤ k → k ≤ i → ∃ d, valV kv (Sum.inl ((k : Nat) : Int) : Key) = some (.ref d) ∧ d ≠ p ∧ DX C H D d secs (zc cars st k))
      ⟨ExtN.same (sameNew hD (.dK [])), T5.ext (sameNew hD (.dK [])), [], upd_same, Nat.le_refl _, fun _ => rfl, fun k k1 k2 => by omega⟩ (fun i H _ ⟨e, _⟩ => SqL.of (ExtN.lst e hcl5)) ?_ ?_
    · rintro i y Hz H6 hi ⟨e6, T6, kv, hD6, hkl, hkn, hkv⟩ ⟨e, hy⟩
      subst e
      rw [len60] at hi
      have hy : y = V.int ((i + 1 : Nat) : Int) := by
        have hget : (paces60.map fun k => V.int ((k : Nat) : Int))[i]? = some (V.int ((i + 1 : Nat) : Int)) := by
          unfold paces60
          rw [List.getElem?_map, List.getElem?_map, List.getElem?_range hi]
          rfl
        exact Option.some.inj (hy.symm.trans hget)
      subst hy
      have hp6 := e6 _ _ hp5 (fun _ z => nomatch z)
      have o6 : ExtN H0 H6 := (ExtN.same old5).trans e6
      refine ⟨rfl, yes_of ⟨_, rfl, _, rfl, _, rfl, _, rfl, _, rfl, _, rfl, by show 3 ≤ sizeLine; decide, fun t ht => ⟨by show 1 ≤ sizeLine; decide, fun u hu => ?_⟩⟩⟩
      have a1 := sameNew ht (.tup [V.str "z", V.int (st : Nat), V.int ((i + 1 : Nat) : Int)])
      have a2 := sameNew hu (.tup [V.ref t])
      have a12 := a1.trans a2
      have made : ∀ (q : Addr) (H7 : Hp), Same H6 H7 → CarsAt H7 q (zc cars st (i + 1)) → ∀ dv dx2, H7 dv = none → H7 dx2 = none → dx2 ≠ dv → spDInit CR C T [.ref dv, .ref r, .ref q] (upd (upd H7 dx2 (.own dv)) dv (.ins C dx2 [])) (fun v H8 => v = .non ∧ ∃ kvs k, V.int ((i + 1 : Nat) : Int) = kV k ∧ H8 D = some (.dK kvs) ∧ kvs.length < sizeLine ∧ ExtN H5 (upd H8 D (.dK (putK kvs k (.ref dv)))) ∧ Tabs T (upd H8 D (.dK (putK kvs k (.ref dv)))) ∧ ∃ kv2 : List (Key × V), upd H8 D (.dK (putK kvs k (.ref dv))) D = some (.dK kv2) ∧ kv2.length ≤ i + 1 ∧ (∀ n : Str, valV kv2 (Sum.inr n : Key) = none) ∧ ∀ k2 : Nat, 1 ≤ k2 → k2 ≤ i + 1 → ∃ d, valV kv2 (Sum.inl ((k2 : Nat) : Int) : Key) = some (.ref d) ∧ d ≠ p ∧ DX C (upd H8 D (.dK (putK kvs k (.ref dv)))) D d secs (zc cars st k2)) L2.E0 := by
        intro q H7 s7 ct dv dx2 hdv hdx ne
        refine mk_drive (hR.ext (o6.trans (ExtN.same s7))) ct SO (zc_ok CO hz h9 hst (by omega) (by omega)) (T6.ext s7) hdv hdx fun H8 W e8 T8 P8 => ⟨rfl, kv, Sum.inl ((i + 1 : Nat) : Int), rfl, e8 _ _ (s7 _ _ hD6) (fun _ z => nomatch z), Nat.lt_of_le_of_lt hkl (small1000 (by omega)), fun b o e n => ?_, ?_, _, upd_same, Nat.le_trans (length_putK _ _ _) (by omega), fun n => ?_, fun k2 k21 k22 => ?_⟩
        · rw [upd_ne (ne_of_none e hD)]
          exact e8 _ _ (s7 _ _ (e6 _ _ e n)) n
        · exact fun pr hpr => by
            obtain ⟨ps, h1, h2, h3⟩ := T8 pr hpr
            have hD8 := e8 _ _ (s7 _ _ hD6) (fun _ z => nomatch z)
            refine ⟨ps, by rw [upd_ne (ne_of h1 hD8 (by intro z; cases z))]; exact h1, h2, fun pos cv hc => ?_⟩
            obtain ⟨c, e1, e2⟩ := h3 pos cv hc
            exact ⟨c, e1, by rw [upd_ne (ne_of e2 hD8 (by intro z; unfold CodeO at z; cases z))]; exact e2⟩
        · rw [valV_put, if_neg (by intro z; cases z)]
          exact hkn n
        · have hD7 := s7 _ _ hD6
          have hD8 := e8 _ _ hD7 (fun _ z => nomatch z)
          have x8 : DX C H8 D dv secs (zc cars st (i + 1)) := DX.of P8 hD7 (ne_of_none hD7 hdv).symm
          by_cases ek : k2 = i + 1
          · subst ek
            refine ⟨dv, by rw [valV_put, if_pos rfl], (ne_of_none (s7 _ _ hp6) hdv).symm, x8.put (zc_mem _ _ _) hD8 hkn _⟩
          · obtain ⟨d, d1, d2, d3⟩ := hkv k2 k21 (by omega)
            refine ⟨d, ?_, d2, ((d3.ext (ExtN.same s7)).ext e8).put (zc_mem _ _ _) hD8 hkn _⟩
            rw [valV_put, if_neg (by intro z; have := Sum.inl.inj z; omega)]
            exact d1
      refine ⟨a, u, _, _, rfl, rfl, SqT.of (a12 _ _ (o6 _ _ c1 (fun _ z => nomatch z))), SqT.of upd_same, Nat.le_trans (m := 1000) (by rw [hcs]; show cars.length + 1 ≤ 1000; omega) (by decide), fun nil => ?_, fun _ z => (nomatch z), fun ne _ q hq => ?_⟩
      · have cs0 : cs = [] := by cases cs with | nil => rfl | cons _ _ => cases nil
        refine made u _ a12 (zc_at (t := t) c2 (fun i t c e1 e2 => a12 _ _ (o6 _ _ (c3 i t c e1 e2) (fun _ z => nomatch z))) (a2 _ _ upd_same) ?_)
        rw [upd_same, cs0]
        rfl
      · have a3 := sameNew hq (.tup (cs.map V.ref ++ [V.ref t]))
        have a13 := a12.trans a3
        exact made q _ a13 (zc_at (t := t) c2 (fun i t c e1 e2 => a13 _ _ (o6 _ _ (c3 i t c e1 e2) (fun _ z => nomatch z))) (a3 _ _ (a2 _ _ upd_same)) upd_same)
    rintro H6 ⟨e6, T6, kv, hD6, hkl, hkn, hkv⟩
    rw [len60] at hkl hkv
    have hp6 := e6 _ _ hp5 (fun _ z => nomatch z)
    have hcl6 := ExtN.lst e6 hcl5
    have o6 : ExtN H0 H6 := (ExtN.same old5).trans e6
    refine ⟨_, rfl, p, CH, dx, _, rfl, hp6, HT.cl, HT.nd, (by show 3 < 1000; decide), ?_⟩
    rw [put4]
    have d6 : DrvAt C H6 p D secs cars st := ⟨kv, hD6, fun k k1 k2 => let ⟨d, d1, d2, d3⟩ := hkv k k1 k2; ⟨d, d1, d2, d3.da⟩⟩
    have d7 := d6.upd hp6 (.ins CH dx [("_name", V.str "z"), ("_last_place", .int (secs.length : Nat)), ("_candidates", .ref cl), ("_drives", .ref D)])
    have hp7 : upd H6 p (.ins CH dx [("_name", V.str "z"), ("_last_place", .int (secs.length : Nat)), ("_candidates", .ref cl), ("_drives", .ref D)]) p = some (.ins CH dx [("_name", V.str "z"), ("_last_place", .int (secs.length : Nat)), ("_candidates", .ref cl), ("_drives", .ref D)]) := upd_same
    have hcl7 : upd H6 p (.ins CH dx [("_name", V.str "z"), ("_last_place", .int (secs.length : Nat)), ("_candidates", .ref cl), ("_drives", .ref D)]) cl = some (.lst (paces60.map fun k => V.int ((k : Nat) : Int))) := by rw [upd_ne ncl]; exact hcl6
    have o7 : ExtN H0 (upd H6 p (.ins CH dx [("_name", V.str "z"), ("_last_place", .int (secs.length : Nat)), ("_candidates", .ref cl), ("_drives", .ref D)])) := fun b o e n => by rw [upd_ne (ne_of_none e p0)]; exact o6 _ _ e n
    have T7 : Tabs T (upd H6 p (.ins CH dx [("_name", V.str "z"), ("_last_place", .int (secs.length : Nat)), ("_candidates", .ref cl), ("_drives", .ref D)])) := Tabs.keepP T6 hp6 fun b o e n => by rw [upd_ne n]; exact e
    generalize upd H6 p (.ins CH dx [("_name", V.str "z"), ("_last_place", .int (secs.length : Nat)), ("_candidates", .ref cl), ("_drives", .ref D)]) = H7 at d7 hp7 hcl7 o7 T7 ⊢
    refine ⟨by show 0 ≤ sizeLine; decide, fun hl hhl => ?_⟩
    have s8 := sameNew hhl (.lst [])
    have hp8 := s8 _ _ hp7
    refine ⟨_, rfl, p, CH, dx, _, rfl, hp8, HT.cl, HT.nh, (by show 4 < 1000; decide), ?_⟩
    rw [put5]
    have nhl : hl ≠ p := (ne_of_none hp7 hhl).symm
    refine k _ cl D hl (fun b o e n => by rw [upd_ne (ne_of_none e p0)]; exact s8 _ _ (o7 _ _ e n)) (Tabs.keepP (T7.ext s8) hp8 fun b o e n => by rw [upd_ne n]; exact e) ⟨upd_same, by rw [upd_ne ncl]; exact s8 _ _ hcl7, (d7.ext (ExtN.same s8)).upd hp8 _, ⟨[], by rw [upd_ne nhl, upd_same]; rfl, rfl, fun i t v e1 _ => (nomatch e1)⟩, by decide +kernel, by decide +kernel⟩
end
end Sl

set_option Elab.async false
set_option linter.all false
set_option maxRecDepth 100000
set_option maxHeartbeats 2000000
/-! Caught errors of own classes, with a dict of their own or without one. -/
namespace OwnR
open PySem PySem.Spec PyProof.Rows L2 LamX
/-- what an own class of errors says of itself -/
structure ErrC (K : PySem.W.Frag) (C : Addr) : Prop where
  cl : (PySem.W.clsIn K C).isSome = true
  ga : PySem.W.findIn K (.ref C) "__getattribute__" = some (some (.builtin "BaseException.__getattribute__"))
  gg : PySem.W.findIn K (.ref C) "__getattr__" = some none
  sub : PySem.W.subIn K (.ref C) (.type "BaseException") = some true
  hd : PySem.W.hasDictIn K C = true
  cat : PySem.W.findIn K (.ref C) "__class__" = some (some (.builtin "object.__class__"))
  sp : PySem.W.specialIn K (.builtin "object.__class__") "__get__" = some (some (.builtin "getset_descriptor.__get__"))
  tk : PySem.W.takesIn K (.builtin "object.__class__") = some true
  mro : PySem.W.mroIn K C (.type "object") = some true
  ix : PySem.W.findIn K (.ref C) "index" = some none
  nm : PySem.W.findIn K (.ref C) "name" = some none
theorem ErrC.xf {K : PySem.W.Frag} {C : Addr} (h : ErrC K C) : XfC K C := ⟨h.ga, h.gg, h.sub, h.hd⟩
/-- the error's own dict, if it has one, is known -/
def DictK (H : Hp) (d : Option Addr) : Prop := d = none ∨ ∃ dd fs, d = some dd ∧ H dd = some (.xd fs)
theorem DictK.ext {H H' : Hp} {d : Option Addr} (h : DictK H d) (e : ExtN H H') : DictK H' d := by
  rcases h with h | ⟨dd, fs, h1, h2⟩
  · exact .inl h
  · exact .inr ⟨dd, fs, h1, e _ _ h2 (fun _ z => nomatch z)⟩
/-- isinstance(e, c), e the error that the suite holds -/
def rIsV (K : PySem.W.Frag) (D a : Addr) (d : Option Addr) : List V → Hp → VK → Prop := fun xs H Q => ∃ (c : V) (cv : Value) (b : Bool), xs = [.ref a, c] ∧ (∀ u, RelV c u → u = cv) ∧ PySem.W.kitOne K (.ref D) cv = some b ∧ DictK H d ∧ Q (.bl b) H
theorem call_isV {X : Cx} {a D : Addr} {d : Option Addr} {oe : Obj} {pn : List (Addr × Obj)} (C : ErrC X.K D) (hz : Zc (.ref D) d oe) (hf : ∃ vs, oe.data = .fields vs) : CallR (X.suite a ((a, oe) :: pn)) (.builtin "isinstance") (rIsV X.K D a d) := by
  intro pins s σ H xs us Q I r h
  obtain ⟨c, cv, b, rfl, hcv, e, hd, q⟩ := h
  obtain ⟨u1, ur, rfl⟩ : ∃ u1 ur, us = u1 :: ur := by cases r; exact ⟨_, _, rfl⟩
  cases r with
  | cons rx rr =>
    obtain ⟨u2, rfl⟩ : ∃ u2, ur = [u2] := by
      cases rr with
      | cons _ rr => cases rr; exact ⟨_, rfl⟩
    cases rr with
    | cons rt _ =>
      cases rx
      have ec := hcv _ rt
      subst ec
      obtain ⟨hget, _⟩ := I.pin (a, oe) (List.mem_append.mpr (.inl List.mem_cons_self))
      obtain ⟨vs, hv⟩ := hf
      obtain ⟨oc, od, oda, osl⟩ := oe
      obtain ⟨h1, h2⟩ := hz
      dsimp only at h1 h2 hv
      subst h1 h2 hv
      rcases hd with hd | ⟨dd, fs, hd, hdd⟩
      · subst hd
        exact PySem.W.kia_one (PySem.W.kitx_exc (od := none) C.cl C.ga C.gg C.sub C.cat C.sp C.tk C.mro) I.kIn ⟨hget, rfl, rfl, trivial⟩ e (fun z => nomatch z) fun tk => ⟨.bl b, H, I.kept (t' := tk) fun _ _ z => z, rfl, q⟩
      · subst hd
        obtain ⟨mA, hns, _⟩ := (show ObjOk X.prog X.w H s.heap dd (.xd fs) from I.hok dd _ hdd)
        obtain ⟨o1, ho1, _⟩ := lookIn_ns hns
        exact PySem.W.kia_one (PySem.W.kitx_exc (od := some o1) C.cl C.ga C.gg C.sub C.cat C.sp C.tk C.mro) I.kIn ⟨hget, rfl, rfl, ho1⟩ e (fun z => nomatch z) fun tk => ⟨.bl b, H, I.kept (t' := tk) fun _ _ z => z, rfl, q⟩
/-! ### list.count of flat things -/
def rCntV (K : PySem.W.Frag) : V → List V → Hp → VK → Prop := fun x xs H Q => ∃ (p : Addr) (ys : List V) (y : V), x = .ref p ∧ xs = [y] ∧ SqL K H p ys ∧ flatV y = true ∧ ys.all flatV = true ∧ Q (.int ((ys.countP fun z => eqV z y : Nat) : Int)) H
theorem countU {y : V} : ∀ {ys : List V} {us : List Value}, Vals ys us → ys.all flatV = true → us.countP (eqU y) = ys.countP fun z => eqV z y
  | _, _, .nil, _ => rfl
  | z :: ys, u :: us, .cons r t, f => by
    obtain ⟨f1, f2⟩ := Bool.and_eq_true_iff.mp f
    rw [List.countP_cons, List.countP_cons, countU t f2, eqU_of r f1]
theorem mt_countV {X : Cx} : MtR X "list.count" (rCntV X.K) := by
  intro pins s σ H x xs v us Q I rx rxs h
  obtain ⟨p, ys, y, rfl, rfl, hs, fy, fys, q⟩ := h
  cases (show v = Value.ref p from rx)
  obtain ⟨u, rfl, ru⟩ := rxs.one
  obtain ⟨its, rv, ⟨⟨cls, dd, data, sl⟩, n, ho, hc, hdn, hd⟩, hlen⟩ := I.list hs
  dsimp only at hc hd
  subst hc hd
  have key := SeqAt.list_countAt p its.toArray n dd sl u (eqU y)
  refine call_meets PySem.F.slot_list_count ⟨_, ho, rfl⟩ PySem.F.entry_list_count (PySem.F.args_list_count_2 _ _) key ⟨ho, fun w hw => mem_eqAt ru fy rv fys w (by simpa using hw), ?_⟩
  refine ⟨.int ((its.toArray.toList.countP (eqU y) : Nat) : Int), H, I.tok _, ⟨s.toks, rfl⟩, ?_⟩
  rw [show its.toArray.toList = its by simp, countU rv fys]
  exact q
end OwnR

set_option Elab.async false
set_option linter.all false
set_option maxRecDepth 100000
set_option maxHeartbeats 2000000
namespace Sl
open PySem PySem.Spec L2 OwnR LamX
section
variable {P : Program} {w : World} {K : PySem.W.Frag} {mg : Str → Option Value} {base : Heap}
/-! ### is_number of anything -/
/-- a number within limits -/
def numB : V → Int → Int → Bool
  | .int i, lo, hi => decide (lo ≤ i) && decide (i ≤ hi)
  | _, _, _ => false
/-- what may be asked: a number, None, a bool, a text -/
def Plain (v : V) : Prop := (∃ i, v = .int i) ∨ v = .non ∨ (∃ b, v = .bl b) ∨ ∃ z, v = .str z
def spIsNumV : Sp := fun vs H Q _ => ∃ (v : V) (lo hi : Int), vs = [v, .int lo, .int hi] ∧ Plain v ∧ Q (.bl (numB v lo hi)) H
theorem ok_isNumV {f : Addr} {fd : FuncData} (F : Fun K "is_number" "is_number" sIsNumber f fd) (M : Mg mg) : FnOk P w K mg base CX0 1 f fd ["value", "least", "most"] spIsNumV := by
  refine F.ok scIsNumber (fun vs H Q E h => ?_) (fun cdv A outer s H vs Q E hr h => ?_)
  · obtain ⟨i, lo, hi, rfl, _⟩ := h
    rfl
  · obtain ⟨v, lo, hi, rfl, hv, k⟩ := h
    refine ⟨_, pss_one (ps_ret (pe_and (pe_callB call_isi (by rfl) M.isinstance boot_isinstance (pa_cons (pv 0) (pa_cons (pe_bltn (v := .ty "int") (by rfl) M.int boot_tInt rfl) pa_nil)))
      (pe_and (pe_not (pe_callB call_isi (by rfl) M.isinstance boot_isinstance (pa_cons (pv 0) (pa_cons (pe_bltn (v := .ty "bool") (by rfl) M.bool boot_tBool rfl) pa_nil))))
        (pe_one (pe_chain op_le op_le (pv 1) (pv 0) (pv 2)))))), ?_⟩
    rcases hv with ⟨i, rfl⟩ | rfl | ⟨b, rfl⟩ | ⟨z, rfl⟩
    · refine ⟨_, rfl, _, _, _, _, true, rfl, .ty _, .base (.int i), kit_ty (by decide +kernel), true, rfl, iteT ?_⟩
      refine ⟨_, rfl, _, _, _, _, false, rfl, .ty _, .base (.int i), kit_ty (by decide +kernel), false, rfl, true, rfl, iteT ?_⟩
      refine ⟨_, rfl, _, rfl, lo, i, rfl, rfl, _, rfl, ?_⟩
      have k : Q (.bl (decide (lo ≤ i) && decide (i ≤ hi))) H := k
      by_cases h1 : lo ≤ i
      · rw [decide_eq_true h1] at k ⊢
        exact iteT ⟨_, rfl, i, hi, rfl, rfl, by simpa using k⟩
      · rw [decide_eq_false h1] at k ⊢
        exact iteF (by simpa using k)
    · exact ⟨_, rfl, _, _, _, _, false, rfl, .ty _, .base .non, kit_ty (by decide +kernel), false, rfl, iteF k⟩
    · refine ⟨_, rfl, _, _, _, _, true, rfl, .ty _, .base (.bl b), kit_ty (by decide +kernel), true, rfl, iteT ?_⟩
      exact ⟨_, rfl, _, _, _, _, true, rfl, .ty _, .base (.bl b), kit_ty (by decide +kernel), true, rfl, false, rfl, iteF k⟩
    · exact ⟨_, rfl, _, _, _, _, false, rfl, .ty _, .base (.str z), kit_ty (by decide +kernel), false, rfl, iteF k⟩
/-- an own class of errors that is made with a text -/
structure ErrT (K : PySem.W.Frag) (mg : Str → Option Value) (x : Str) (C : Addr) : Prop where
  q : PySem.W.excIn K C [.type "ValueError", .type "Exception", .type "BaseException", .type "object"] "ValueError.__new__" = true
  g : mg x = some (.ref C)
  k : PySem.W.keepIn K (.ref C) = true
  b : PySem.W.subIn K (.ref C) (.type "BaseException") = some true
  t : PySem.W.typeIn K (.ref C) = some (.type "type")
theorem pmk_errT {X : Cx} {C : Addr} {x m : Str} {j : Nat} {p p2 pos : Pos} (e : ErrT X.K X.mg x C) (hg : Gl X x) (hdb : (x == ("__debug__" : Str)) = false := by decide) : PMk X (.Call (.Name x p) [.Constant (.str m) j p2] [] pos) (fun _ H Q => Q (.ref C) none H) :=
  pmk_own PySem.F.excBase_ValueError e.q e.g e.k (raises_own e.b e.t) hg hdb
end
end Sl

set_option Elab.async false
set_option linter.all false
set_option maxRecDepth 100000
set_option maxHeartbeats 4000000
namespace Sl
open PySem PySem.Spec L2 OwnR LamX
theorem map_atZ {α β : Type} {xs : List α} {k : Nat} {v : α} (f : α → β) (h : xs[k]? = some v) : (xs.map f)[k]? = some (f v) := by rw [List.getElem?_map, h]; rfl
/-- all but p stays -/
structure KpP (p : Addr) (H H' : Hp) : Prop where
  ext : ExtN (mask p H) H'
  tab : ∀ T, Tabs T H → Tabs T H'
theorem KpP.same {p : Addr} {H H' : Hp} (e : Same H H') : KpP p H H' := ⟨fun b o h _ => e _ _ (mask_some h).2, fun _ T => T.ext e⟩
theorem KpP.of {p : Addr} {H H' : Hp} (e : ExtN H H') (t : ∀ T, Tabs T H → Tabs T H') : KpP p H H' := ⟨fun b o h n => e _ _ (mask_some h).2 n, t⟩
theorem KpP.trans {p : Addr} {H H1 H2 : Hp} (a : KpP p H H1) (b : KpP p H1 H2) : KpP p H H2 := ⟨fun c o h n => b.ext _ _ (by rw [mask_ne (mask_some h).1]; exact a.ext _ _ h n) n, fun T t => b.tab T (a.tab T t)⟩
theorem KpP.upd {p : Addr} {H : Hp} {C dx : Addr} {fs : List (Str × V)} (hp : H p = some (.ins C dx fs)) (o : HO) : KpP p H (upd H p o) := ⟨mask_upd o, fun T t => Tabs.keepP t hp fun b u e n => by rw [upd_ne n]; exact e⟩
theorem KpP.get {p b : Addr} {H H' : Hp} (k : KpP p H H') {o : HO} (h : H b = some o) (n : b ≠ p) (nt : ∀ ps, o ≠ .tbl ps) : H' b = some o := k.ext _ _ (by rw [mask_ne n]; exact h) nt
section
variable {P : Program} {w : World} {K : PySem.W.Frag} {mg : Str → Option Value} {base : Heap}
/-! ### candidates, history -/
def spCands (CH C : Addr) : Sp := fun vs H Q _ => ∃ (p dx : Addr) (secs : List Sec) (cars : List Car) (st : Nat) (L : List Nat) (hist : List (List V)) (cl dd hl : Addr), vs = [.ref p] ∧ HPat CH C H p dx secs cars st L hist cl dd hl ∧ ∀ l, H l = none → Q (.ref l) (upd H l (.lst (L.map fun k => V.int ((k : Nat) : Int))))
theorem scCands : FnScope ["self"] ["self"] (defScope sHiddenPaceCandidates) := ⟨rfl, rfl, rfl, by decide +kernel, rfl, by decide +kernel, by decide +kernel⟩
theorem ok_cands {f CH C : Addr} {fd : FuncData} (F : Fun K "candidates" "HiddenPace.candidates" sHiddenPaceCandidates f fd) (M : Mg mg) (HT : HidT K CH) : FnOk P w K mg base CX0 1 f fd ["self"] (spCands CH C) := by
  refine F.ok scCands (fun vs H Q E h => ?_) (fun cdv A outer s H vs Q E hr h => ?_)
  · obtain ⟨p, dx, secs, cars, st, L, hist, cl, dd, hl, rfl, _⟩ := h
    rfl
  · obtain ⟨p, dx, secs, cars, st, L, hist, cl, dd, hl, rfl, HP, k⟩ := h
    refine ⟨_, pss_one (ps_ret (pe_callTy call_list_of (by rfl) M.list (by decide +kernel) (pa_cons (pe_fld (pv 0) rfl) pa_nil))), ?_⟩
    exact ⟨_, rfl, p, CH, dx, _, _, rfl, HP.ins, HT.cl, HT.nc, hf_c _ _ _ _, cl, _, rfl, .inl (SqL.of HP.cd), k⟩
def spHist (CH C : Addr) : Sp := fun vs H Q _ => ∃ (p dx : Addr) (secs : List Sec) (cars : List Car) (st : Nat) (L : List Nat) (hist : List (List V)) (cl dd hl : Addr), vs = [.ref p] ∧ HPat CH C H p dx secs cars st L hist cl dd hl ∧ ∀ H' l, Same H H' → H l = none → TupsAt H' l hist → Q (.ref l) H'
theorem scHist : FnScope ["self"] ["self"] (defScope sHiddenPaceHistory) := ⟨rfl, rfl, rfl, by decide +kernel, rfl, by decide +kernel, by decide +kernel⟩
theorem ok_hist {f CH C : Addr} {fd : FuncData} (F : Fun K "history" "HiddenPace.history" sHiddenPaceHistory f fd) (M : Mg mg) (HT : HidT K CH) : FnOk P w K mg base CX0 1 f fd ["self"] (spHist CH C) := by
  refine F.ok scHist (fun vs H Q E h => ?_) (fun cdv A outer s H vs Q E hr h => ?_)
  · obtain ⟨p, dx, secs, cars, st, L, hist, cl, dd, hl, rfl, _⟩ := h
    rfl
  · obtain ⟨p, dx, secs, cars, st, L, hist, cl, dd, hl, rfl, HP, k⟩ := h
    refine ⟨_, pss_one (ps_ret (pe_callTy call_list_of (by rfl) M.list (by decide +kernel) (pa_cons (pe_fld (pv 0) rfl) pa_nil))), ?_⟩
    obtain ⟨ts, h1, h2, h3⟩ := HP.hs
    refine ⟨_, rfl, p, CH, dx, _, _, rfl, HP.ins, HT.cl, HT.nh, hf_h _ _ _ _, hl, _, rfl, .inl (SqL.of h1), fun l hl2 => ?_⟩
    have s1 := sameNew hl2 (.lst (ts.map V.ref))
    exact k _ l s1 hl2 ⟨ts, upd_same, h2, fun i t v e1 e2 => s1 _ _ (h3 i t v e1 e2)⟩
/-! ### _check_place -/
def spHPlace (CH C : Addr) : Sp := fun vs H Q _ => ∃ (p dx : Addr) (secs : List Sec) (cars : List Car) (st : Nat) (L : List Nat) (hist : List (List V)) (cl dd hl : Addr) (k : Nat), vs = [.ref p, .int (k : Nat)] ∧ HPat CH C H p dx secs cars st L hist cl dd hl ∧ k ≤ secs.length ∧ Q .non H
theorem scHPlace : FnScope ["self", "place"] ["self", "place"] (defScope sHiddenPaceCheckPlace) := ⟨rfl, rfl, rfl, by decide +kernel, rfl, by decide +kernel, by decide +kernel⟩
theorem ok_hPlace {f fB CH C : Addr} {fd dB : FuncData} (F : Fm K CH "_check_place" "HiddenPace._check_place" sHiddenPaceCheckPlace ["self", "place"] f fd) (HT : HidT K CH) (BB : Fb K mg "is_number" sIsNumber ["value", "least", "most"] fB dB) (GB : FnOk P w K mg base CX0 1 fB dB ["value", "least", "most"] spIsNumber) : FnOk P w K mg base CX0 2 f fd ["self", "place"] (spHPlace CH C) := by
  refine F.fn.ok scHPlace (fun vs H Q E h => ?_) (fun cdv A outer s H vs Q E hr h => ?_)
  · obtain ⟨p, dx, secs, cars, st, L, hist, cl, dd, hl, i, rfl, _⟩ := h
    rfl
  · obtain ⟨p, dx, secs, cars, st, L, hist, cl, dd, hl, i, rfl, HP, hi, k⟩ := h
    refine ⟨_, pss_one (ps_if (pt_not (pt_val (pe_call GB hr (by rfl) BB.at_ BB.fn.kp BB.bd .nil pass0 (pa_cons (pv 1) (pa_cons pe_int (pa_cons (pe_fld (pv 0) rfl) pa_nil)))))) (pss_one ps_never) pss_nil), ?_⟩
    refine ⟨_, rfl, _, rfl, p, CH, dx, _, _, rfl, HP.ins, HT.cl, HT.nl, hf_l _ _ _ _, (i : Int), 0, _, rfl, ?_⟩
    rw [show (decide ((0 : Int) ≤ (i : Int)) && decide ((i : Int) ≤ (secs.length : Nat))) = true by rw [decide_eq_true (by omega), decide_eq_true (by omega)]; rfl]
    exact ⟨_, rfl, iteF k⟩
/-! ### _accept -/
def spAccept (CH C CC : Addr) : Sp := fun vs H Q E => ∃ (p dx rl ob : Addr) (secs : List Sec) (cars : List Car) (st : Nat) (L L2 : List Nat) (hist : List (List V)) (cl dd hl : Addr) (ov : List V), vs = [.ref p, .ref rl, .ref ob] ∧ HPat CH C H p dx secs cars st L hist cl dd hl ∧ H rl = some (.lst (L2.map fun k => V.int ((k : Nat) : Int))) ∧ (∀ k ∈ L2, k ∈ L) ∧ L2.length ≤ L.length ∧ H ob = some (.tup ov) ∧ hist.length ≤ 100 ∧
  ((L2 = [] ∧ E (.ref CC) none H) ∨ (L2 ≠ [] ∧ ∀ H' hl2, KpP p H H' → HPat CH C H' p dx secs cars st L2 (hist ++ [ov]) rl dd hl2 → Q (.int (L2.length : Nat)) H'))
theorem scAccept : FnScope ["self", "remaining", "observation"] ["self", "remaining", "observation"] (defScope sHiddenPaceAccept) := ⟨rfl, rfl, rfl, by decide +kernel, rfl, by decide +kernel, by decide +kernel⟩
theorem ok_accept {f CH C CC : Addr} {fd : FuncData} (F : Fm K CH "_accept" "HiddenPace._accept" sHiddenPaceAccept ["self", "remaining", "observation"] f fd) (M : Mg mg) (HT : HidT K CH) (EC : ErrT K mg "Contradiction" CC) : FnOk P w K mg base (L2.CX P w) 1 f fd ["self", "remaining", "observation"] (spAccept CH C CC) := by
  refine F.fn.okX scAccept (fun vs H Q E h => ?_) (fun cdv A outer s H vs Q E hr h => ?_)
  · obtain ⟨p, dx, rl, ob, secs, cars, st, L, L2, hist, cl, dd, hl, ov, rfl, _⟩ := h
    rfl
  · obtain ⟨p, dx, rl, ob, secs, cars, st, L, L2, hist, cl, dd, hl, ov, rfl, HP, hrl, hin, hle, hob, h100, hk⟩ := h
    have nd := scAccept.nd
    refine ⟨_, pss_cons (ps_if (pt_cmpR op_eq (pe_callB call_len_seq (by rfl) M.len boot_len (pa_cons (pv 1) pa_nil)) pe_int (nomark _)) (pss_one (ps_raise rfl (takes_of rfl rfl rfl rfl) (pmk_errT EC (by rfl)))) pss_nil)
      (pss_cons (ps_fld (pv 0) (pv 1) rfl)
      (pss_cons (ps_fld (pv 0) (pe_op op_cat (pe_fld (pv 0) rfl) (pe_lst (pa_cons (pv 2) pa_nil))) rfl)
      (pss_one (ps_ret (pe_callB call_len_seq (by rfl) M.len boot_len (pa_cons (pv 1) pa_nil)))))), ?_⟩
    have few := HP.few
    refine ⟨_, rfl, rl, _, rfl, .inl (SqL.of hrl), rfl, _, rfl, ?_⟩
    rw [List.length_map]
    rcases hk with ⟨rfl, hE⟩ | ⟨ne, hQ⟩
    · rw [show decide (V.int (([] : List Nat).length : Nat) = V.int 0) = true from by decide +kernel]
      exact iteT hE
    · rw [decide_eq_false (by intro z; have := V.int.inj z; exact ne (List.length_eq_zero_iff.mp (by omega)))]
      refine iteF ?_
      have nrp : rl ≠ p := ne_of hrl HP.ins (by intro z; cases z)
      have nop : ob ≠ p := ne_of hob HP.ins (by intro z; cases z)
      refine ⟨_, rfl, _, rfl, p, CH, dx, _, rfl, HP.ins, HT.cl, HT.nc, (by show 5 < 1000; decide), ?_⟩
      rw [putC]
      have k1 := KpP.upd HP.ins (.ins CH dx (hf secs.length rl dd hl))
      have hp1 : upd H p (.ins CH dx (hf secs.length rl dd hl)) p = some (.ins CH dx (hf secs.length rl dd hl)) := upd_same
      have d1 := HP.dr.upd HP.ins (.ins CH dx (hf secs.length rl dd hl))
      have hrl1 := k1.get hrl nrp (fun _ z => nomatch z)
      have hob1 := k1.get hob nop (fun _ z => nomatch z)
      obtain ⟨ts, h1, h2, h3⟩ := HP.hs
      have nhp : hl ≠ p := ne_of h1 HP.ins (by intro z; cases z)
      have h1' := k1.get h1 nhp (fun _ z => nomatch z)
      have h3' : ∀ (i : Nat) (t : Addr) (v : List V), ts[i]? = some t → hist[i]? = some v → upd H p (.ins CH dx (hf secs.length rl dd hl)) t = some (.tup v) := fun i t v e1 e2 => k1.get (h3 i t v e1 e2) (ne_of (h3 i t v e1 e2) HP.ins (by intro z; cases z)) (fun _ z => nomatch z)
      generalize upd H p (.ins CH dx (hf secs.length rl dd hl)) = H1 at k1 hp1 d1 hrl1 hob1 h1' h3' ⊢
      refine ⟨_, rfl, p, CH, dx, _, _, rfl, hp1, HT.cl, HT.nh, hf_h _ _ _ _, _, rfl, by show 1 ≤ sizeLine; decide, fun z1 hz1 => ?_⟩
      have s2 := sameNew hz1 (.lst [V.ref ob])
      refine ⟨hl, z1, _, _, rfl, rfl, s2 _ _ h1', upd_same, Nat.le_trans (m := 1000) (by rw [List.length_map, h2]; show hist.length + 1 ≤ 1000; omega) (by decide), fun z2 hz2 => ?_⟩
      have s3 := sameNew hz2 (.lst (ts.map V.ref ++ [V.ref ob]))
      have s23 := s2.trans s3
      have hp3 := s23 _ _ hp1
      refine ⟨_, rfl, p, CH, dx, _, rfl, hp3, HT.cl, HT.nh, (by show 5 < 1000; decide), ?_⟩
      rw [putH]
      have nz2 : z2 ≠ p := (ne_of_none (s2 _ _ hp1) hz2).symm
      have k3 := KpP.upd hp3 (.ins CH dx (hf secs.length rl dd z2))
      have kk := k1.trans ((KpP.same s23).trans k3)
      have hrl4 := k3.get (s23 _ _ hrl1) nrp (fun _ z => nomatch z)
      refine ⟨_, rfl, rl, _, rfl, .inl (SqL.of hrl4), ?_⟩
      rw [List.length_map]
      refine hQ _ z2 kk ⟨upd_same, hrl4, (d1.ext (ExtN.same s23)).upd hp3 _, ⟨ts ++ [ob], ?_, by rw [List.length_append, List.length_append, h2]; rfl, fun i t v e1 e2 => ?_⟩, fun k hk => HP.pc k (hin k hk), by omega⟩
      · rw [upd_ne nz2, upd_same, List.map_append]
        rfl
      · rcases Nat.lt_or_ge i hist.length with lt | ge
        · rw [List.getElem?_append_left (by omega)] at e1
          rw [List.getElem?_append_left lt] at e2
          have q := s23 _ _ (h3' i t v e1 e2)
          exact k3.get q (ne_of q hp3 (by intro z; cases z)) (fun _ z => nomatch z)
        · rw [List.getElem?_append_right (by omega)] at e1
          rw [List.getElem?_append_right ge] at e2
          have i0 : i - hist.length = 0 := by
            have := (List.getElem?_eq_some_iff.mp e2).1
            simp at this
            omega
          rw [h2, i0] at e1
          rw [i0] at e2
          cases e1
          cases e2
          exact k3.get (s23 _ _ hob1) nop (fun _ z => nomatch z)
end
end Sl

set_option Elab.async false
set_option linter.all false
set_option maxRecDepth 100000
set_option maxHeartbeats 4000000
namespace Sl
open PySem PySem.Spec L2 OwnR LamX
/-- the tick of the car of a pace at a place -/
def tz (secs : List Sec) (cars : List Car) (st i k : Nat) : Int := (plcC secs (zc cars st k) i).tk "z"
theorem tks_at {secs : List Sec} {cars : List Car} {n : Str} {i : Nat} (h : i ≤ secs.length) : (tksL secs cars n)[i]? = some ((plcC secs cars i).tk n) := by
  unfold tksL
  rw [List.getElem?_map, List.getElem?_range (by omega)]
  rfl
theorem gi {H : Hp} {a : Addr} {kv : List (Key × V)} {k : Nat} {v : V} (h : H a = some (.dK kv)) (e : valV kv (Sum.inl ((k : Nat) : Int) : Key) = some v) : DGet H a (.int ((k : Nat) : Int)) (some v) := by
  have := DGet.k (k := (Sum.inl ((k : Nat) : Int) : Key)) h
  rw [e] at this
  exact this
section
variable {P : Program} {w : World} {K : PySem.W.Frag} {mg : Str → Option Value} {base : Heap}
/-- what a drive of the object tells of the car -/
theorem tick_rd {CH C : Addr} {H : Hp} {p dx : Addr} {secs : List Sec} {cars : List Car} {st : Nat} {L : List Nat} {hist : List (List V)} {cl dd hl : Addr} {k i : Nat} {σ : L2.St} {Q : VK} {j jp : Nat} (HT : HidT K CH) (HP : HPat CH C H p dx secs cars st L hist cl dd hl) (k1 : 1 ≤ k) (k2 : k ≤ 60) (hi : i ≤ secs.length) (h12 : secs.length ≤ 12)
    (e0 : σ[0]? = some (some (.ref p))) (ep : σ[jp]? = some (some (.int ((k : Nat) : Int)))) (ei : σ[j]? = some (some (.int ((i : Nat) : Int)))) (h : ∀ H', Same H H' → Q (.int (tz secs cars st i k)) H') :
    tOp (rIxT K) (tSubO C (fun vs H Q E => spGet C (vs ++ []) H Q E) L2.E0 (tDGet (tFld K (tVar 0) "_drives") (tVar jp)) (tFld K (tVar 0) "_name")) (tVar j) σ H Q := by
  obtain ⟨kv, d1, d2⟩ := HP.dr
  obtain ⟨d, g1, g2, da⟩ := d2 k k1 k2
  obtain ⟨H0, W, D⟩ := id da
  refine ⟨_, e0, p, CH, dx, _, _, rfl, HP.ins, HT.cl, HT.nd, hf_d _ _ _ _, _, ep, dd, _, rfl, gi d1 g1, _, e0, p, CH, dx, _, _, rfl, HP.ins, HT.cl, HT.nn, hf_n _ _ _ _, d, _, _, rfl, D.ins, d, secs, zc cars st k, "z", rfl, da, zc_mem _ _ _, h12, fun H2 t s2 ht => ?_⟩
  exact ⟨_, ei, t, _, _, _, rfl, rfl, SqT.of ht, atI_nat (map_atZ V.int (tks_at hi)), h H2 s2⟩
/-! ### see -/
def spSee (CH C CC : Addr) : Sp := fun vs H Q E => ∃ (p dx : Addr) (secs : List Sec) (cars : List Car) (st : Nat) (L : List Nat) (hist : List (List V)) (cl dd hl : Addr) (i : Nat) (tk : Int), vs = [.ref p, .int (i : Nat), .int tk] ∧ HPat CH C H p dx secs cars st L hist cl dd hl ∧ i ≤ secs.length ∧ secs.length ≤ 12 ∧ 0 ≤ tk ∧ tk ≤ 1000000000 ∧ hist.length ≤ 100 ∧
  ((L.filter (fun k => decide (tz secs cars st i k = tk)) = [] ∧ ∀ H', Same H H' → E (.ref CC) none H') ∨ (L.filter (fun k => decide (tz secs cars st i k = tk)) ≠ [] ∧ ∀ H' cl2 hl2, KpP p H H' → HPat CH C H' p dx secs cars st (L.filter fun k => decide (tz secs cars st i k = tk)) (hist ++ [[.str "see", .int (i : Nat), .int tk]]) cl2 dd hl2 → Q (.int ((L.filter fun k => decide (tz secs cars st i k = tk)).length : Nat)) H'))
def nSee : List Str := ["self", "place", "tick", "remaining", "pace"]
theorem scSee : FnScope nSee ["self", "place", "tick"] (defScope sHiddenPaceSee) := ⟨rfl, rfl, rfl, by decide +kernel, rfl, by decide +kernel, by decide +kernel⟩
theorem ok_see {f fP fB fG fA CH C CC : Addr} {fd dP dB dG dA : FuncData} (F : Fm K CH "see" "HiddenPace.see" sHiddenPaceSee ["self", "place", "tick"] f fd) (HT : HidT K CH) (ML : ∃ t, mg "LATEST_TICK" = some (.int 1000000000 t))
    (BP : Fm K CH "_check_place" "HiddenPace._check_place" sHiddenPaceCheckPlace ["self", "place"] fP dP) (GP : FnOk P w K mg base CX0 2 fP dP ["self", "place"] (spHPlace CH C))
    (BB : Fb K mg "is_number" sIsNumber ["value", "least", "most"] fB dB) (GB : FnOk P w K mg base CX0 1 fB dB ["value", "least", "most"] spIsNumber)
    (sG : PySem.W.findIn K (.ref C) "__getitem__" = some (some (.ref fG))) (iG : PySem.W.isFn K (.ref fG) = true) (jG : PySem.W.fnIn K fG = true) (bG : Binds K dG ["self", "at"] []) (GG : FnOk P w K mg base CX0 3 fG dG ["self", "at"] (spGet C))
    (BA : Fm K CH "_accept" "HiddenPace._accept" sHiddenPaceAccept ["self", "remaining", "observation"] fA dA) (GA : FnOk P w K mg base (L2.CX P w) 1 fA dA ["self", "remaining", "observation"] (spAccept CH C CC)) : FnOk P w K mg base (L2.CX P w) 5 f fd ["self", "place", "tick"] (spSee CH C CC) := by
  obtain ⟨tl, ML⟩ := ML
  refine F.fn.okX scSee (fun vs H Q E h => ?_) (fun cdv A outer s H vs Q E hr h => ?_)
  · obtain ⟨p, dx, secs, cars, st, L, hist, cl, dd, hl, i, tk, rfl, _⟩ := h
    rfl
  · obtain ⟨p, dx, secs, cars, st, L, hist, cl, dd, hl, i, tk, rfl, HP, hi, h12, t0, t1, h100, hk⟩ := h
    have nd := scSee.nd
    have hu := hu_of hr
    have hr1 : Room 1 (A.deeper (PyProof.Rows.envOfC "HiddenPace.see" (defScope sHiddenPaceSee) s.heap.objs.size f cdv)) := hr.mono (by decide)
    have hr2 : Room 2 (A.deeper (PyProof.Rows.envOfC "HiddenPace.see" (defScope sHiddenPaceSee) s.heap.objs.size f cdv)) := hr.mono (by decide)
    refine ⟨_, pss_cons (ps_expr (pe_meth (pv 0) HT.cl BP.at_ GP hr2 BP.bd .nil pass0 (pa_cons (pv 1) pa_nil)))
      (pss_cons (ps_if (pt_not (pt_val (pe_call GB hr1 (by rfl) BB.at_ BB.fn.kp BB.bd .nil pass0 (pa_cons (pv 2) (pa_cons pe_int (pa_cons (pe_glob (v := .int 1000000000) (by rfl) ML ⟨_, rfl⟩) pa_nil)))))) (pss_one ps_never) pss_nil)
      (pss_cons (ps_setLc (i := 3) (own := [("pace", 4)]) (g := gName 4) (tt := tTest (tOp rEq (tOp (rIxT K) (tSubO C (fun vs H Q E => spGet C (vs ++ []) H Q E) L2.E0 (tDGet (tFld K (tVar 0) "_drives") (tVar 4)) (tFld K (tVar 0) "_name")) (tVar 1)) (tVar 2))) (te := tVar 4) (by rfl) nd rfl rfl (sw_true rfl rfl rfl (by decide +kernel)) (pi_list (pe_fld (pv 0) rfl)) (blkOk_by (N := nSee) (sc := defScope sHiddenPaceSee) (by decide +kernel))
        (fun _ _ _ _ _ => pg_name (i := 4) nd rfl (Or.inl rfl)) (fun _ _ _ _ _ => pts_one (pt_cmpR op_eq (pe_ix (r := rIxT K) ix_tup (pe_subO sG iG jG (GG.raw bG .nil) hr pass0 (pe_dget hu (pe_fld (pv 0) rfl) (pv 4) (fun _ _ => rfl)) (pe_fld (pv 0) rfl)) (pv 1) (fun _ _ => rfl)) (pv 2) (nomark _))) (fun _ _ _ _ _ => pv 4))
      (pss_one (ps_ret (pe_meth (pv 0) HT.cl BA.at_ GA hr1 BA.bd .nil (passes_call (takes_of rfl rfl rfl rfl) fun _ _ _ _ h => h) (pa_cons (pv 3) (pa_cons (pe_tup (pa_cons pe_str (pa_cons (pv 1) (pa_cons (pv 2) pa_nil)))) pa_nil))))))), ?_⟩
    have hno : ∀ {m : Str}, ¬ ("_name" : Str) = m → ¬ ("_last_place" : Str) = m → ¬ ("_candidates" : Str) = m → ¬ ("_drives" : Str) = m → ¬ ("_history" : Str) = m → (hf secs.length cl dd hl).lookup m = none := fun a b c d e => hf_no _ _ _ _ a b c d e
    refine ⟨_, rfl, p, dx, _, rfl, HP.ins, hno (by decide +kernel) (by decide +kernel) (by decide +kernel) (by decide +kernel) (by decide +kernel), _, rfl, p, dx, secs, cars, st, L, hist, cl, dd, hl, i, rfl, HP, hi, ?_⟩
    refine ⟨_, rfl, tk, 0, 1000000000, rfl, ?_⟩
    rw [show (decide ((0 : Int) ≤ tk) && decide (tk ≤ 1000000000)) = true by rw [decide_eq_true t0, decide_eq_true t1]; rfl]
    refine ⟨_, rfl, iteF ?_⟩
    refine ⟨_, rfl, p, CH, dx, _, _, rfl, HP.ins, HT.cl, HT.nc, hf_c _ _ _ _, cl, rfl, ⟨_, SqL.of HP.cd⟩, fun D hD => ?_⟩
    have few := HP.few
    refine lc_it walk_list (fun j H1 => Same H H1 ∧ H1 D = some (.lst (((L.take j).filter fun k => decide (tz secs cars st i k = tk)).map fun k => V.int ((k : Nat) : Int)))) ⟨sameNew hD _, upd_same⟩ (fun j H1 _ ⟨k1, _⟩ => SqL.of (k1 _ _ HP.cd)) ?_ ?_
    · rintro j y Hz H1 hj ⟨s1, hD1⟩ ⟨e, hy⟩
      subst e
      rw [List.length_map] at hj
      obtain ⟨k, hkL⟩ : ∃ k, L[j]? = some k := ⟨_, List.getElem?_eq_getElem hj⟩
      have hy : y = V.int ((k : Nat) : Int) := by
        have : (L.map fun k => V.int ((k : Nat) : Int))[j]? = some (V.int ((k : Nat) : Int)) := by rw [List.getElem?_map, hkL]; rfl
        exact Option.some.inj (hy.symm.trans this)
      subst hy
      have pk := HP.pc k (List.mem_of_getElem? hkL)
      refine ⟨rfl, tick_rd HT (HP.ext (ExtN.same s1)) pk.1 pk.2 hi h12 rfl rfl rfl fun H2 s2 => ⟨_, rfl, rfl, _, rfl, ?_⟩⟩
      have s12 := s1.trans s2
      have hD2 := s2 _ _ hD1
      have en : (L.take (j + 1)).filter (fun k => decide (tz secs cars st i k = tk)) = (L.take j).filter (fun k => decide (tz secs cars st i k = tk)) ++ if tz secs cars st i k = tk then [k] else [] := by
        rw [tk1 hkL, List.filter_append]
        by_cases g : tz secs cars st i k = tk <;> simp [g]
      by_cases g : tz secs cars st i k = tk
      · rw [decide_eq_true (congrArg V.int g)]
        refine iteT ⟨_, rfl, _, hD2, ?_, fun b o e2 => by rw [upd_ne (ne_of_none e2 hD)]; exact s12 _ _ e2, ?_⟩
        · rw [List.length_map]
          exact Nat.lt_of_le_of_lt (Nat.le_trans (List.length_filter_le _ _) (by rw [List.length_take]; omega)) (small1000 (show 60 ≤ 1000 by decide))
        · rw [upd_same, en, if_pos g, List.map_append]
          rfl
      · rw [decide_eq_false (fun z => g (V.int.inj z))]
        refine iteF ⟨s12, ?_⟩
        rw [hD2, en, if_neg g, List.append_nil]
    rintro H1 ⟨s1, hD1⟩
    rw [List.length_map, List.take_length] at hD1
    have HP1 := HP.ext (ExtN.same s1)
    refine ⟨_, rfl, p, dx, _, rfl, HP1.ins, hno (by decide +kernel) (by decide +kernel) (by decide +kernel) (by decide +kernel) (by decide +kernel), _, rfl, _, rfl, _, rfl, by show 3 ≤ sizeLine; decide, fun ob hob => ?_⟩
    have s2 := sameNew hob (.tup [V.str "see", V.int (i : Nat), V.int tk])
    refine ⟨p, dx, D, ob, secs, cars, st, L, _, hist, cl, dd, hl, _, rfl, HP1.ext (ExtN.same s2), s2 _ _ hD1, fun k hk => (List.mem_filter.mp hk).1, List.length_filter_le _ _, upd_same, h100, ?_⟩
    rcases hk with ⟨e, hE⟩ | ⟨ne, hQ⟩
    · exact .inl ⟨e, hE _ (s1.trans s2)⟩
    · exact .inr ⟨ne, fun H' hl2 kp HP2 => hQ H' D hl2 ((KpP.same (s1.trans s2)).trans kp) HP2⟩
end
end Sl

set_option Elab.async false
set_option linter.all false
set_option maxRecDepth 100000
set_option maxHeartbeats 4000000
namespace Sl
open PySem PySem.Spec L2 OwnR LamX
section
variable {P : Program} {w : World} {K : PySem.W.Frag} {mg : Str → Option Value} {base : Heap}
/-- order.index(name) -/
theorem index_rd {H : Hp} {o : Addr} {ord : List Str} {n : Str} {Q : VK} (ho : H o = some (.lst (ord.map V.str))) (hn : n ∈ ord) (h : Q (.int ((posL n ord : Nat) : Int)) H) : rIndex K (.ref o) [.str n] H Q := by
  refine ⟨o, _, .str n, posL n ord, .str n, rfl, rfl, SqL.of ho, rfl, flat_strs _, map_atZ V.str (posL_at hn), by rw [eqV_str]; exact decide_eq_true rfl, fun m z' hm hz => ?_, h⟩
  rw [List.getElem?_map] at hz
  obtain ⟨y, hy, rfl⟩ := Option.map_eq_some_iff.mp hz
  rw [eqV_str]
  exact decide_eq_false (posL_not hy hm)
theorem ix1 (n : Str) : eqV (.str n) (.str n) = true := by rw [eqV_str]; exact decide_eq_true rfl
theorem ix2 {ord : List Str} {n : Str} (m : Nat) (z' : V) (hm : m < posL n ord) (hz : (ord.map V.str)[m]? = some z') : eqV z' (.str n) = false := by
  rw [List.getElem?_map] at hz
  obtain ⟨y, hy, rfl⟩ := Option.map_eq_some_iff.mp hz
  rw [eqV_str]
  exact decide_eq_false (posL_not hy hm)
def spInOrd : Sp := fun vs H Q _ => ∃ (o n : Addr) (ord : List Str) (a b : Str), vs = [.ref o, .ref n] ∧ H o = some (.lst (ord.map V.str)) ∧ H n = some (.tup [.str a, .str b]) ∧ a ∈ ord ∧ b ∈ ord ∧ ∀ H', Same H H' → Q (.bl (decide (posL a ord < posL b ord))) H'
def nInOrd : List Str := ["order", "names", "at", "name", "one", "other"]
theorem scInOrd : FnScope nInOrd ["order", "names"] (defScope sAreInOrder) := ⟨rfl, rfl, rfl, by decide +kernel, rfl, by decide +kernel, by decide +kernel⟩
theorem ok_inOrd {f : Addr} {fd : FuncData} (F : Fun K "_are_in_order" "_are_in_order" sAreInOrder f fd) (M : Mg mg) (MZ : mg "zip" = none) : FnOk P w K mg base CX0 1 f fd ["order", "names"] spInOrd := by
  refine F.ok scInOrd (fun vs H Q E h => ?_) (fun cdv A outer s H vs Q E hr h => ?_)
  · obtain ⟨o, n, ord, a, b, rfl, _⟩ := h
    rfl
  · obtain ⟨o, n, ord, a, b, rfl, ho, hn, ha, hb, k⟩ := h
    have nd := scInOrd.nd
    refine ⟨_, pss_cons (ps_setLc (i := 2) (own := [("name", 3)]) (g := gName 3) (tt := tYes) (te := tBM K "list" (rIndex K) (tVar 0) (tCons (tVar 3) tNil)) (by rfl) nd rfl rfl (sw_true rfl rfl rfl (by decide +kernel)) (pi_tup (pv 1)) (blkOk_by (N := nInOrd) (sc := defScope sAreInOrder) (by decide +kernel))
        (fun _ _ _ _ _ => pg_name (i := 3) nd rfl (Or.inl rfl)) (fun _ _ _ _ _ => pts_nil) (fun _ _ _ _ _ => pe_bm PySem.F.plainAttrs_list PySem.F.slot_list_index PySem.F.type_list_index mt_index (pv 0) (pa_cons (pv 3) pa_nil)))
      (pss_one (ps_ret (pe_callB (cr_all rfl) (by rfl) M.all boot_all (pa_cons (pe_lc (own := [("one", 4), ("other", 5)]) (g := gTup K 2 (gCons (gName 4) (gCons (gName 5) gNil))) (tt := tYes) (te := tOp (rI0 fun i j => V.bl (decide (i < j))) (tVar 4) (tVar 5)) (by rfl) nd (pi_zip (by rfl) MZ (pa_cons (pv 2) (pa_cons (pe_slice sl_list (pv 2) (po_some pe_int) po_none) pa_nil))) (blkOk_by (N := nInOrd) (sc := defScope sAreInOrder) (by decide +kernel))
        (fun _ _ _ _ _ => pg_tup rfl (pgs_cons (pg_name (i := 4) nd rfl (Or.inl rfl)) (pgs_cons (pg_name (i := 5) nd rfl (Or.inl rfl)) pgs_nil))) (fun _ _ _ _ _ => pts_nil) (fun _ _ _ _ _ => pe_cmpR op_lt (pv 4) (pv 5) (nomark _))) pa_nil)))), ?_⟩
    refine ⟨_, rfl, n, rfl, ⟨_, SqT.of hn⟩, fun D hD => ?_⟩
    refine lc_it walk_tup (fun i H1 => Same H H1 ∧ H1 D = some (.lst (([posL a ord, posL b ord].take i).map fun k => V.int ((k : Nat) : Int)))) ⟨sameNew hD _, upd_same⟩ (fun i H1 _ ⟨k1, _⟩ => SqT.of (k1 _ _ hn)) ?_ ?_
    · rintro i y Hz H1 hi ⟨s1, hD1⟩ ⟨e, hy⟩
      subst e
      have ho1 := s1 _ _ ho
      match i, hi, hy, hD1 with
      | 0, _, hy, hD1 =>
        obtain rfl := Option.some.inj hy
        refine ⟨rfl, yes_of ⟨_, rfl, .inl ⟨rfl, _, SqL.of ho1⟩, _, rfl, ?_⟩⟩
        exact ⟨o, _, .str a, posL a ord, .str a, rfl, rfl, SqL.of ho1, rfl, flat_strs _, map_atZ V.str (posL_at ha), ix1 a, ix2, _, hD1, by show 0 < sizeLine; decide, fun b' o' e2 => by rw [upd_ne (ne_of_none e2 hD)]; exact s1 _ _ e2, by rw [upd_same]; rfl⟩
      | 1, _, hy, hD1 =>
        obtain rfl := Option.some.inj hy
        refine ⟨rfl, yes_of ⟨_, rfl, .inl ⟨rfl, _, SqL.of ho1⟩, _, rfl, ?_⟩⟩
        exact ⟨o, _, .str b, posL b ord, .str b, rfl, rfl, SqL.of ho1, rfl, flat_strs _, map_atZ V.str (posL_at hb), ix1 b, ix2, _, hD1, by show 1 < sizeLine; decide, fun b' o' e2 => by rw [upd_ne (ne_of_none e2 hD)]; exact s1 _ _ e2, by rw [upd_same]; rfl⟩
    rintro H1 ⟨s1, hD1⟩
    have hD1 : H1 D = some (.lst [.int ((posL a ord : Nat) : Int), .int ((posL b ord : Nat) : Int)]) := hD1
    refine ⟨_, rfl, _, rfl, 1, rfl, D, _, rfl, SqL.of hD1, fun z hz => ?_⟩
    rw [show (some (1 : Int)) = some ((1 : Nat) : Int) from rfl, cut_from (by show 1 ≤ 2; decide)]
    have s2 := sameNew hz (.lst ([V.int ((posL a ord : Nat) : Int), V.int ((posL b ord : Nat) : Int)].drop 1))
    have hD2 := s2 _ _ hD1
    have hz2 : upd H1 z (.lst ([V.int ((posL a ord : Nat) : Int), V.int ((posL b ord : Nat) : Int)].drop 1)) z = some (.lst [V.int ((posL b ord : Nat) : Int)]) := upd_same
    generalize upd H1 z (.lst ([V.int ((posL a ord : Nat) : Int), V.int ((posL b ord : Nat) : Int)].drop 1)) = H2 at s2 hD2 hz2 ⊢
    refine ⟨D, z, _, _, rfl, SqL.of hD2, SqL.of hz2, fun D3 hD3 => ?_⟩
    refine lc_it (walk_zip (n := 1) (xs := [V.int ((posL a ord : Nat) : Int), V.int ((posL b ord : Nat) : Int)]) (ys := [V.int ((posL b ord : Nat) : Int)]) rfl) (fun i H3 => Same H2 H3 ∧ H3 D3 = some (.lst (([decide (posL a ord < posL b ord)].take i).map V.bl))) ⟨sameNew hD3 _, upd_same⟩ (fun i H3 _ ⟨k1, _⟩ => ⟨SqL.of (k1 _ _ hD2), SqL.of (k1 _ _ hz2)⟩) ?_ ?_
    · rintro i y Hz H3 hi ⟨s3, hl3⟩ ⟨T, x1, y1, rfl, hT, rfl, hx, hy⟩
      have i0 : i = 0 := by omega
      subst i0
      obtain rfl := Option.some.inj hx
      obtain rfl := Option.some.inj hy
      have sT := sameNew hT (.tup [V.int ((posL a ord : Nat) : Int), V.int ((posL b ord : Nat) : Int)])
      refine ⟨T, _, rfl, SqT.of upd_same, rfl, _, _, rfl, _, _, rfl, rfl, rfl, yes_of ⟨_, rfl, _, rfl, _, _, rfl, rfl, _, sT _ _ hl3, by show 0 < sizeLine; decide, fun b' o' e2 => by rw [upd_ne (ne_of_none e2 hD3)]; exact sT _ _ (s3 _ _ e2), ?_⟩⟩
      rw [upd_same]
      show some (HO.lst [V.bl (decide (((posL a ord : Nat) : Int) < ((posL b ord : Nat) : Int)))]) = _
      rw [show decide (((posL a ord : Nat) : Int) < ((posL b ord : Nat) : Int)) = decide (posL a ord < posL b ord) by rw [decide_eq_decide]; omega]
      rfl
    rintro H3 ⟨s3, hl3⟩
    refine ⟨D3, [decide (posL a ord < posL b ord)], rfl, SqL.of hl3, ?_⟩
    have := k H3 (s1.trans (s2.trans s3))
    simpa using this
end
end Sl

set_option Elab.async false
set_option linter.all false
set_option maxRecDepth 100000
set_option maxHeartbeats 4000000
namespace Sl
open PySem PySem.Spec L2 OwnR LamX
/-- do the two stand so, with the car of a pace, at a place? -/
def zo (secs : List Sec) (cars : List Car) (st i : Nat) (a b : Str) (k : Nat) : Bool := decide (posL a (plcC secs (zc cars st k) i).ord < posL b (plcC secs (zc cars st k) i).ord)
section
variable {P : Program} {w : World} {K : PySem.W.Frag} {mg : Str → Option Value} {base : Heap}
def spSeeO0 (CH C CC : Addr) : Sp := fun vs H Q E => ∃ (p dx t : Addr) (secs : List Sec) (cars : List Car) (st : Nat) (L : List Nat) (hist : List (List V)) (cl dd hl : Addr) (i : Nat) (a b : Str), vs = [.ref p, .int (i : Nat), .ref t] ∧ H t = some (.tup [.str a, .str b]) ∧ HPat CH C H p dx secs cars st L hist cl dd hl ∧ i ≤ secs.length ∧ secs.length ≤ 12 ∧ (a ∈ names cars ∨ a = "z") ∧ (b ∈ names cars ∨ b = "z") ∧ (∀ k n, (n ∈ names cars ∨ n = "z") → n ∈ (plcC secs (zc cars st k) i).ord) ∧ hist.length ≤ 100 ∧
  ((L.filter (zo secs cars st i a b) = [] ∧ ∀ H', Same H H' → E (.ref CC) none H') ∨ (L.filter (zo secs cars st i a b) ≠ [] ∧ ∀ H' cl2 hl2, KpP p H H' → HPat CH C H' p dx secs cars st (L.filter (zo secs cars st i a b)) (hist ++ [[.str "see_order", .int (i : Nat), .str a, .str b]]) cl2 dd hl2 → Q (.int ((L.filter (zo secs cars st i a b)).length : Nat)) H'))
abbrev spSeeO (CH C CC : Addr) : Sp := fun vs H Q E => ∃ ws rest, vs = ws ++ rest ∧ ws.length = (["self", "place"] : List Str).length ∧ rest.length ≤ sizeLine ∧ ∀ p, H p = Option.none → spSeeO0 CH C CC (ws ++ [V.ref p]) (upd H p (.tup rest)) Q E
def nSeeO : List Str := ["self", "place", "names", "name", "remaining", "pace"]
theorem scSeeO : FnScope nSeeO ["self", "place", "names"] (defScope sHiddenPaceSeeOrder) := ⟨rfl, rfl, rfl, by decide +kernel, rfl, by decide +kernel, by decide +kernel⟩
theorem zc_in {cars : List Car} {st k : Nat} {n : Str} (h : n ∈ names cars ∨ n = "z") : n ∈ names (zc cars st k) := by
  rw [zc_names]
  exact h.elim (List.mem_append_left _) fun e => List.mem_append_right _ (List.mem_singleton.mpr e)
theorem ok_seeO {f fP fH fO fI fA CH C CC : Addr} {fd dP dH dO dI dA : FuncData} (F : Fun K "see_order" "HiddenPace.see_order" sHiddenPaceSeeOrder f fd) (M : Mg mg) (HT : HidT K CH) (R : DriveT K mg C)
    (BP : Fm K CH "_check_place" "HiddenPace._check_place" sHiddenPaceCheckPlace ["self", "place"] fP dP) (GP : FnOk P w K mg base CX0 2 fP dP ["self", "place"] (spHPlace CH C))
    (sH : PySem.W.findIn K (.ref C) "__contains__" = some (some (.ref fH))) (iH : PySem.W.isFn K (.ref fH) = true) (bH : Binds K dH ["self", "x"] []) (GH : FnOk P w K mg base CX0 1 fH dH ["self", "x"] (spHas C))
    (BO : Fm K C "order_at" "Drive.order_at" sDOrderAt ["self", "place"] fO dO) (GO : FnOk P w K mg base CX0 3 fO dO ["self", "place"] (spOrderAt C))
    (BI : Fb K mg "_are_in_order" sAreInOrder ["order", "names"] fI dI) (GI : FnOk P w K mg base CX0 1 fI dI ["order", "names"] spInOrd)
    (BA : Fm K CH "_accept" "HiddenPace._accept" sHiddenPaceAccept ["self", "remaining", "observation"] fA dA) (GA : FnOk P w K mg base (L2.CX P w) 1 fA dA ["self", "remaining", "observation"] (spAccept CH C CC)) : FnR P w K mg base (L2.CX P w) 5 f (spSeeO CH C CC) := by
  obtain ⟨tp0, MP⟩ := M.slowestPace
  obtain ⟨oc, od, kV, doc, pm, an, cdv, ct, osl, rfl, lk, hcd⟩ := F.ex
  refine StX.fn_star lk hcd scSeeO StX.cxUp (StX.bind_star2 (p1 := "self") (p2 := "place") (pv := "names") (B := fun xs => bindArgs (PySem.W.fnOf "see_order" "HiddenPace.see_order" (defArgs sHiddenPaceSeeOrder) (defBody sHiddenPaceSeeOrder) (defScope sHiddenPaceSeeOrder) .none kV doc pm an cdv ct) ⟨xs, []⟩) (fun _ _ => rfl) (fun _ _ _ _ => rfl)) fun A outer s H vs Q E hr h => ?_
  obtain ⟨p, dx, t, secs, cars, st, L, hist, cl, dd, hl, i, a, b, rfl, ht, HP, hi, h12, ha, hb, hall, h100, hk⟩ := h
  have nd := scSeeO.nd
  have hu := hu_of hr
  have hr1 : Room 1 (A.deeper (PyProof.Rows.envOfC "HiddenPace.see_order" (defScope sHiddenPaceSeeOrder) s.heap.objs.size f cdv)) := hr.mono (by decide)
  have hr2 : Room 2 (A.deeper (PyProof.Rows.envOfC "HiddenPace.see_order" (defScope sHiddenPaceSeeOrder) s.heap.objs.size f cdv)) := hr.mono (by decide)
  have hr3 : Room 3 (A.deeper (PyProof.Rows.envOfC "HiddenPace.see_order" (defScope sHiddenPaceSeeOrder) s.heap.objs.size f cdv)) := hr.mono (by decide)
  refine ⟨_, pss_cons (ps_expr (pe_meth (pv 0) HT.cl BP.at_ GP hr2 BP.bd .nil pass0 (pa_cons (pv 1) pa_nil)))
      (pss_cons (ps_for (passes_of rfl) rfl (pi_tup (pv 2)) (pg_name (i := 3) nd rfl (.inl rfl)) (pss_one (ps_if (pt_cmpR (op_notInO sH iH (GH.raw bH .nil) hr1 pass0) (pv 3) (pe_dget hu (pe_fld (pv 0) rfl) (pe_glob (v := .int 60) (by rfl) MP ⟨_, rfl⟩) (fun _ _ => rfl)) (by rfl)) (pss_one ps_never) pss_nil)))
      (pss_cons (ps_setLc (i := 4) (own := [("pace", 5)]) (g := gName 5) (tt := tB (tCall spInOrd [] L2.E0 (tCons (tMeth C "order_at" (spOrderAt C) [] L2.E0 (tDGet (tFld K (tVar 0) "_drives") (tVar 5)) (tCons (tVar 1) tNil)) (tCons (tVar 2) tNil)))) (te := tVar 5) (by rfl) nd rfl rfl (sw_true rfl rfl rfl (by decide +kernel)) (pi_list (pe_fld (pv 0) rfl)) (blkOk_by (N := nSeeO) (sc := defScope sHiddenPaceSeeOrder) (by decide +kernel))
        (fun _ _ _ _ _ => pg_name (i := 5) nd rfl (Or.inl rfl)) (fun _ _ _ _ _ => pts_one (pt_val (pe_call GI hr1 (by rfl) BI.at_ BI.fn.kp BI.bd .nil pass0 (pa_cons (pe_meth (pe_dget hu (pe_fld (pv 0) rfl) (pv 5) (fun _ _ => rfl)) R.cl BO.at_ GO hr3 BO.bd .nil pass0 (pa_cons (pv 1) pa_nil)) (pa_cons (pv 2) pa_nil))))) (fun _ _ _ _ _ => pv 5))
      (pss_one (ps_ret (pe_meth (pv 0) HT.cl BA.at_ GA hr1 BA.bd .nil (passes_call (takes_of rfl rfl rfl rfl) fun _ _ _ _ h => h) (pa_cons (pv 4) (pa_cons (pe_tup (pa_cons pe_str (pa_cons (pv 1) (StX.pa_star (pv 2) pa_nil)))) pa_nil))))))), ?_⟩
  have hno : ∀ {m : Str}, ¬ ("_name" : Str) = m → ¬ ("_last_place" : Str) = m → ¬ ("_candidates" : Str) = m → ¬ ("_drives" : Str) = m → ¬ ("_history" : Str) = m → (hf secs.length cl dd hl).lookup m = none := fun a b c d e => hf_no _ _ _ _ a b c d e
  refine ⟨_, rfl, p, dx, _, rfl, HP.ins, hno (by decide +kernel) (by decide +kernel) (by decide +kernel) (by decide +kernel) (by decide +kernel), _, rfl, p, dx, secs, cars, st, L, hist, cl, dd, hl, i, rfl, HP, hi, ?_⟩
  refine ⟨_, rfl, t, rfl, ⟨_, SqT.of ht⟩, for_it walk_tup (fun j σ H1 => ∃ v3, σ = [some (.ref p), some (.int (i : Nat)), some (.ref t), v3, none, none] ∧ H1 = H) ⟨none, rfl, rfl⟩ (fun j σ H1 _ ⟨_, _, e⟩ => by rw [e]; exact SqT.of ht) ?_ ?_⟩
  · rintro j y σ Hz H1 hj ⟨v3, rfl, e0⟩ ⟨e, hy⟩
    subst e
    subst e0
    obtain ⟨n, hn, rfl⟩ : ∃ n, (n ∈ names cars ∨ n = "z") ∧ y = .str n := by
      match j, hj, hy with
      | 0, _, hy => exact ⟨a, ha, (Option.some.inj hy).symm⟩
      | 1, _, hy => exact ⟨b, hb, (Option.some.inj hy).symm⟩
    obtain ⟨kv, d1, d2⟩ := HP.dr
    obtain ⟨d, g1, g2, da⟩ := d2 60 (by decide) (by decide)
    obtain ⟨H0', W, D⟩ := id da
    refine ⟨_, rfl, _, rfl, p, CH, dx, _, _, rfl, HP.ins, HT.cl, HT.nd, hf_d _ _ _ _, dd, _, rfl, gi d1 g1, d, W.dx, _, rfl, D.ins, d, secs, zc cars st 60, n, rfl, da, ?_⟩
    rw [decide_eq_true (zc_in hn)]
    exact ⟨_, rfl, _, rfl, iteF ⟨_, rfl, rfl⟩⟩
  rintro σ Hz ⟨v3, rfl, e0⟩
  subst e0
  refine ⟨_, rfl, p, CH, dx, _, _, rfl, HP.ins, HT.cl, HT.nc, hf_c _ _ _ _, cl, rfl, ⟨_, SqL.of HP.cd⟩, fun D hD => ?_⟩
  have few := HP.few
  refine lc_it walk_list (fun j H1 => Same Hz H1 ∧ H1 D = some (.lst (((L.take j).filter (zo secs cars st i a b)).map fun k => V.int ((k : Nat) : Int)))) ⟨sameNew hD _, upd_same⟩ (fun j H1 _ ⟨k1, _⟩ => SqL.of (k1 _ _ HP.cd)) ?_ ?_
  · rintro j y Hy H1 hj ⟨s1, hD1⟩ ⟨e, hy⟩
    subst e
    rw [List.length_map] at hj
    obtain ⟨k, hkL⟩ : ∃ k, L[j]? = some k := ⟨_, List.getElem?_eq_getElem hj⟩
    have hy : y = V.int ((k : Nat) : Int) := by
      have : (L.map fun k => V.int ((k : Nat) : Int))[j]? = some (V.int ((k : Nat) : Int)) := by rw [List.getElem?_map, hkL]; rfl
      exact Option.some.inj (hy.symm.trans this)
    subst hy
    have pk := HP.pc k (List.mem_of_getElem? hkL)
    have HP1 := HP.ext (ExtN.same s1)
    obtain ⟨kv, d1, d2⟩ := HP1.dr
    obtain ⟨d, g1, g2, da⟩ := d2 k pk.1 pk.2
    obtain ⟨H0', W, DD⟩ := id da
    refine ⟨rfl, _, rfl, p, CH, dx, _, _, rfl, HP1.ins, HT.cl, HT.nd, hf_d _ _ _ _, _, rfl, dd, _, rfl, gi d1 g1, d, W.dx, _, rfl, DD.ins, df5_no _ _ _ _ _ (by decide +kernel) (by decide +kernel) (by decide +kernel) (by decide +kernel) (by decide +kernel), _, rfl, d, secs, zc cars st k, i, rfl, da, hi, fun l hl0 => ?_⟩
    have s2 := sameNew hl0 (.lst ((plcC secs (zc cars st k) i).ord.map V.str))
    refine ⟨_, rfl, l, t, _, a, b, rfl, upd_same, s2 _ _ (s1 _ _ ht), hall k a ha, hall k b hb, fun H2 s3 => ⟨_, rfl, ?_⟩⟩
    have s12 := s1.trans (s2.trans s3)
    have hD2 := s3 _ _ (s2 _ _ hD1)
    have en : (L.take (j + 1)).filter (zo secs cars st i a b) = (L.take j).filter (zo secs cars st i a b) ++ if zo secs cars st i a b k = true then [k] else [] := by
      rw [tk1 hkL, List.filter_append]
      by_cases g : zo secs cars st i a b k = true <;> simp [g]
    show if zo secs cars st i a b k = true then _ else _
    by_cases g : zo secs cars st i a b k = true
    · rw [if_pos g]
      refine ⟨_, rfl, _, hD2, ?_, fun b o e2 => by rw [upd_ne (ne_of_none e2 hD)]; exact s12 _ _ e2, ?_⟩
      · rw [List.length_map]
        exact Nat.lt_of_le_of_lt (Nat.le_trans (List.length_filter_le _ _) (by rw [List.length_take]; omega)) (small1000 (show 60 ≤ 1000 by decide))
      · rw [upd_same, en, if_pos g, List.map_append]
        rfl
    · rw [if_neg g]
      refine ⟨s12, ?_⟩
      rw [hD2, en, if_neg g, List.append_nil]
  rintro H1 ⟨s1, hD1⟩
  rw [List.length_map, List.take_length] at hD1
  have HP1 := HP.ext (ExtN.same s1)
  refine ⟨_, rfl, p, dx, _, rfl, HP1.ins, hno (by decide +kernel) (by decide +kernel) (by decide +kernel) (by decide +kernel) (by decide +kernel), _, rfl, _, rfl, _, rfl, t, _, rfl, .inl (SqT.of (s1 _ _ ht)), by show 4 ≤ sizeLine; decide, fun ob hob => ?_⟩
  have s2 := sameNew hob (.tup [V.str "see_order", V.int (i : Nat), V.str a, V.str b])
  refine ⟨p, dx, D, ob, secs, cars, st, L, _, hist, cl, dd, hl, _, rfl, HP1.ext (ExtN.same s2), s2 _ _ hD1, fun k hk => (List.mem_filter.mp hk).1, List.length_filter_le _ _, upd_same, h100, ?_⟩
  rcases hk with ⟨e, hE⟩ | ⟨ne, hQ⟩
  · exact .inl ⟨e, hE _ (s1.trans s2)⟩
  · exact .inr ⟨ne, fun H' hl2 kp HP2 => hQ H' D hl2 ((KpP.same (s1.trans s2)).trans kp) HP2⟩
end
end Sl

set_option Elab.async false
set_option linter.all false
set_option maxRecDepth 100000
set_option maxHeartbeats 4000000
namespace OwnR
open PySem PySem.Spec PyProof.Rows L2 LamX
/-- a walk for the comprehension that makes a set of ints -/
theorem scI_it {J : It} {n : Nat} {G : Hp → Prop} {Y : Nat → Hp → V → Hp → Prop} (wk : Walk J n G Y) {w : World} {g : TG} {te : TE} {vs : List Nat} {σ : L2.St} {H1 : Hp} {D : Addr} {Qd : Hp → Prop} (Pv : Nat → Hp → Prop) (h0 : Pv 0 (upd H1 D (SetO w D (fun _ => false) 0))) (hG : ∀ i H, i ≤ n → Pv i H → G H)
    (hs : ∀ i x H H', i < n → Pv i H → Y i H x H' → g x (wipe σ vs) H' fun σ2 H2 => wipe σ2 vs = wipe σ vs ∧ te σ2 H2 fun y H4 => ∃ (k : Int) (S : Int → Bool) (c : Nat), y = .int k ∧ H4 D = some (SetO w D S c) ∧ c + 1 < scanBound ∧ Pv (i + 1) (upd H4 D (SetO w D (fun j => S j || decide (j = k)) (if S k = true then c else c + 1)))) (hd : ∀ H, Pv n H → Qd H) :
    ∃ W : Nat → Nat → Hp → Prop, (∃ m, W 0 m (upd H1 D (SetO w D (fun _ => false) 0))) ∧ ∀ i m H, W i m H →
      (J.stop i H ∧ Qd H) ∨ (J.go i H ∧ ∃ Nx : Hp → Prop, (∀ H', Nx H' → ∃ m', m' < m ∧ W (i + 1) m' H') ∧ ∀ x H', J.yld i H x H' → g x (wipe σ vs) H' fun σ2 H2 => wipe σ2 vs = wipe σ vs ∧
        te σ2 H2 fun y H4 => ∃ (k : Int) (S : Int → Bool) (c : Nat), y = .int k ∧ H4 D = some (SetO w D S c) ∧ c + 1 < scanBound ∧ Nx (upd H4 D (SetO w D (fun j => S j || decide (j = k)) (if S k = true then c else c + 1)))) := by
  refine ⟨fun i m H => m + i = n ∧ Pv i H, ⟨n, by omega, h0⟩, ?_⟩
  rintro i m H ⟨em, p⟩
  have hi : i ≤ n := by omega
  have g0 := hG i H hi p
  rcases Nat.lt_or_ge i n with lt | ge
  · exact .inr ⟨wk.goes i H lt g0, Pv (i + 1), fun H' p' => ⟨n - (i + 1), by omega, by omega, p'⟩, fun x H' y => hs i x H H' lt p (wk.yields i H x H' lt g0 y)⟩
  · have ei : i = n := by omega
    subst ei
    exact .inl ⟨wk.stops H g0, hd H p⟩
end OwnR
namespace Sl
open PySem PySem.Spec L2 OwnR LamX
/-! ### the ticks that are possible, ascending -/
def insU (x : Int) : List Int → List Int
  | [] => [x]
  | y :: r => if x < y then x :: y :: r else if x = y then y :: r else y :: insU x r
theorem mem_insU {x z : Int} : ∀ {l : List Int}, z ∈ insU x l ↔ z = x ∨ z ∈ l
  | [] => by simp [insU]
  | y :: r => by
    unfold insU
    by_cases h1 : x < y
    · rw [if_pos h1]
      simp
    · rw [if_neg h1]
      by_cases h2 : x = y
      · rw [if_pos h2]
        subst h2
        simp
      · rw [if_neg h2, List.mem_cons, mem_insU, List.mem_cons]
        constructor
        · rintro (h | h | h)
          · exact .inr (.inl h)
          · exact .inl h
          · exact .inr (.inr h)
        · rintro (h | h | h)
          · exact .inr (.inl h)
          · exact .inl h
          · exact .inr (.inr h)
theorem pw_insU {x : Int} : ∀ {l : List Int}, l.Pairwise (· < ·) → (insU x l).Pairwise (· < ·)
  | [], _ => by simp [insU]
  | y :: r, h => by
    have h' := List.pairwise_cons.mp h
    unfold insU
    by_cases h1 : x < y
    · rw [if_pos h1]
      refine List.pairwise_cons.mpr ⟨fun z hz => ?_, h⟩
      rcases List.mem_cons.mp hz with rfl | hz
      · exact h1
      · have := h'.1 z hz
        omega
    · rw [if_neg h1]
      by_cases h2 : x = y
      · rw [if_pos h2]
        exact h
      · rw [if_neg h2]
        refine List.pairwise_cons.mpr ⟨fun z hz => ?_, pw_insU h'.2⟩
        rcases mem_insU.mp hz with rfl | hz
        · omega
        · exact h'.1 z hz
def ascL (l : List Int) : List Int := l.foldr insU []
theorem mem_ascL {z : Int} : ∀ {l : List Int}, z ∈ ascL l ↔ z ∈ l
  | [] => by simp [ascL]
  | x :: r => by
    show z ∈ insU x (ascL r) ↔ _
    rw [mem_insU, mem_ascL, List.mem_cons]
theorem pw_ascL : ∀ l : List Int, (ascL l).Pairwise (· < ·)
  | [] => List.Pairwise.nil
  | x :: r => pw_insU (pw_ascL r)
theorem asc_uniq : ∀ {a b : List Int}, a.Pairwise (· < ·) → b.Pairwise (· < ·) → (∀ x, x ∈ a ↔ x ∈ b) → a = b
  | [], [], _, _, _ => rfl
  | [], y :: b, _, _, h => nomatch (h y).mpr List.mem_cons_self
  | x :: a, [], _, _, h => nomatch (h x).mp List.mem_cons_self
  | x :: a, y :: b, pa, pb, h => by
    have pa := List.pairwise_cons.mp pa
    have pb := List.pairwise_cons.mp pb
    have e : x = y := by
      rcases List.mem_cons.mp ((h x).mp List.mem_cons_self) with e | e
      · exact e
      · rcases List.mem_cons.mp ((h y).mpr List.mem_cons_self) with e2 | e2
        · exact e2.symm
        · have := pa.1 y e2
          have := pb.1 x e
          omega
    subst e
    refine congrArg (x :: ·) (asc_uniq pa.2 pb.2 fun z => ⟨fun hz => ?_, fun hz => ?_⟩)
    · rcases List.mem_cons.mp ((h z).mp (List.mem_cons_of_mem _ hz)) with e | e
      · have := pa.1 z hz
        omega
      · exact e
    · rcases List.mem_cons.mp ((h z).mpr (List.mem_cons_of_mem _ hz)) with e | e
      · have := pb.1 z hz
        omega
      · exact e
theorem asc_of {l ns : List Int} (p : ns.Pairwise (· < ·)) (h : ∀ x, x ∈ ns ↔ x ∈ l) : ns = ascL l := asc_uniq p (pw_ascL l) fun x => (h x).trans mem_ascL.symm
theorem insU_len (x : Int) : ∀ l : List Int, (insU x l).length ≤ l.length + 1
  | [] => Nat.le_refl _
  | y :: r => by
    unfold insU
    split
    · simp
    · split
      · simp
      · have := insU_len x r
        simp only [List.length_cons]
        omega
theorem ascL_len : ∀ l : List Int, (ascL l).length ≤ l.length
  | [] => Nat.le_refl _
  | x :: r => by
    have h1 := insU_len x (ascL r)
    have h2 := ascL_len r
    show (insU x (ascL r)).length ≤ r.length + 1
    omega
/-- the possible ticks at a place -/
def tkA (secs : List Sec) (cars : List Car) (st i : Nat) (L : List Nat) : List Int := ascL (L.map fun k => tz secs cars st i k)
theorem boot_sorted : bootBuiltins "sorted" = some (.builtin "sorted") := by decide +kernel
section
variable {P : Program} {w : World} {K : PySem.W.Frag} {mg : Str → Option Value} {base : Heap}
def spPoss (CH C : Addr) : Sp := fun vs H Q _ => ∃ (p dx : Addr) (secs : List Sec) (cars : List Car) (st : Nat) (L : List Nat) (hist : List (List V)) (cl dd hl : Addr) (i : Nat), vs = [.ref p, .int (i : Nat)] ∧ HPat CH C H p dx secs cars st L hist cl dd hl ∧ i ≤ secs.length ∧ secs.length ≤ 12 ∧ ∀ H' l, Same H H' → H l = none → H' l = some (.lst ((tkA secs cars st i L).map V.int)) → Q (.ref l) H'
def nPoss : List Str := ["self", "place", "pace"]
theorem scPoss : FnScope nPoss ["self", "place"] (defScope sHiddenPacePossibleTicks) := ⟨rfl, rfl, rfl, by decide +kernel, rfl, by decide +kernel, by decide +kernel⟩
theorem ok_poss {f fP fG CH C : Addr} {fd dP dG : FuncData} (F : Fm K CH "possible_ticks" "HiddenPace.possible_ticks" sHiddenPacePossibleTicks ["self", "place"] f fd) (M : Mg mg) (HT : HidT K CH)
    (BP : Fm K CH "_check_place" "HiddenPace._check_place" sHiddenPaceCheckPlace ["self", "place"] fP dP) (GP : FnOk P w K mg base CX0 2 fP dP ["self", "place"] (spHPlace CH C))
    (sG : PySem.W.findIn K (.ref C) "__getitem__" = some (some (.ref fG))) (iG : PySem.W.isFn K (.ref fG) = true) (jG : PySem.W.fnIn K fG = true) (bG : Binds K dG ["self", "at"] []) (GG : FnOk P w K mg base CX0 3 fG dG ["self", "at"] (spGet C)) : FnOk P w K mg base CX0 5 f fd ["self", "place"] (spPoss CH C) := by
  refine F.fn.ok scPoss (fun vs H Q E h => ?_) (fun cdv A outer s H vs Q E hr h => ?_)
  · obtain ⟨p, dx, secs, cars, st, L, hist, cl, dd, hl, i, rfl, _⟩ := h
    rfl
  · obtain ⟨p, dx, secs, cars, st, L, hist, cl, dd, hl, i, rfl, HP, hi, h12, k⟩ := h
    have nd := scPoss.nd
    have hu := hu_of hr
    have hr2 : Room 2 (A.deeper (PyProof.Rows.envOfC "HiddenPace.possible_ticks" (defScope sHiddenPacePossibleTicks) s.heap.objs.size f cdv)) := hr.mono (by decide)
    refine ⟨_, pss_cons (ps_expr (pe_meth (pv 0) HT.cl BP.at_ GP hr2 BP.bd .nil pass0 (pa_cons (pv 1) pa_nil)))
      (pss_one (ps_ret (pe_callB (cr_sortedSet rfl) (by rfl) M.sorted boot_sorted (pa_cons (pe_scI (own := [("pace", 2)]) (g := gName 2) (te := tOp (rIxT K) (tSubO C (fun vs H Q E => spGet C (vs ++ []) H Q E) L2.E0 (tDGet (tFld K (tVar 0) "_drives") (tVar 2)) (tFld K (tVar 0) "_name")) (tVar 1)) (by rfl) nd (pi_list (pe_fld (pv 0) rfl)) (blkOk_by (N := nPoss) (sc := defScope sHiddenPacePossibleTicks) (by decide +kernel))
        (fun _ _ _ _ _ => pg_name (i := 2) nd rfl (Or.inl rfl)) (fun _ _ _ _ _ => pe_ix (r := rIxT K) ix_tup (pe_subO sG iG jG (GG.raw bG .nil) hr pass0 (pe_dget hu (pe_fld (pv 0) rfl) (pv 2) (fun _ _ => rfl)) (pe_fld (pv 0) rfl)) (pv 1) (fun _ _ => rfl))) pa_nil)))), ?_⟩
    have hno : ∀ {m : Str}, ¬ ("_name" : Str) = m → ¬ ("_last_place" : Str) = m → ¬ ("_candidates" : Str) = m → ¬ ("_drives" : Str) = m → ¬ ("_history" : Str) = m → (hf secs.length cl dd hl).lookup m = none := fun a b c d e => hf_no _ _ _ _ a b c d e
    refine ⟨_, rfl, p, dx, _, rfl, HP.ins, hno (by decide +kernel) (by decide +kernel) (by decide +kernel) (by decide +kernel) (by decide +kernel), _, rfl, p, dx, secs, cars, st, L, hist, cl, dd, hl, i, rfl, HP, hi, ?_⟩
    refine ⟨_, rfl, p, CH, dx, _, _, rfl, HP.ins, HT.cl, HT.nc, hf_c _ _ _ _, cl, rfl, ⟨_, SqL.of HP.cd⟩, fun D hD => ?_⟩
    have few := HP.few
    refine scI_it walk_list (fun j H1 => Same H H1 ∧ ∃ S c, H1 D = some (SetO w D S c) ∧ (∀ x, S x = true ↔ ∃ k ∈ L.take j, tz secs cars st i k = x) ∧ c ≤ j) ⟨sameNew hD _, _, _, upd_same, fun x => ⟨fun z => (nomatch z), fun ⟨_, z, _⟩ => (nomatch z)⟩, Nat.le_refl _⟩ (fun j H1 _ ⟨k1, _⟩ => SqL.of (k1 _ _ HP.cd)) ?_ ?_
    · rintro j y Hz H1 hj ⟨s1, S, c, hD1, hS, hc⟩ ⟨e, hy⟩
      subst e
      rw [List.length_map] at hj
      obtain ⟨k, hkL⟩ : ∃ k, L[j]? = some k := ⟨_, List.getElem?_eq_getElem hj⟩
      have hy : y = V.int ((k : Nat) : Int) := by
        have : (L.map fun k => V.int ((k : Nat) : Int))[j]? = some (V.int ((k : Nat) : Int)) := by rw [List.getElem?_map, hkL]; rfl
        exact Option.some.inj (hy.symm.trans this)
      subst hy
      have pk := HP.pc k (List.mem_of_getElem? hkL)
      refine ⟨rfl, tick_rd HT (HP.ext (ExtN.same s1)) pk.1 pk.2 hi h12 rfl rfl rfl fun H2 s2 => ⟨_, S, c, rfl, s2 _ _ hD1, by unfold scanBound; omega, fun b o e2 => by rw [upd_ne (ne_of_none e2 hD)]; exact s2 _ _ (s1 _ _ e2), _, _, upd_same, fun x => ?_, by split <;> omega⟩⟩
      rw [Bool.or_eq_true, hS x, tk1 hkL, decide_eq_true_iff]
      constructor
      · rintro (⟨q, hq, e⟩ | e)
        · exact ⟨q, List.mem_append_left _ hq, e⟩
        · exact ⟨k, List.mem_append_right _ (List.mem_singleton.mpr rfl), e.symm⟩
      · rintro ⟨q, hq, e⟩
        rcases List.mem_append.mp hq with hq | hq
        · exact .inl ⟨q, hq, e⟩
        · rw [List.mem_singleton.mp hq] at e
          exact .inr e.symm
    rintro H1 ⟨s1, S, c, hD1, hS, hc⟩
    rw [List.length_map, List.take_length] at hS
    rw [List.length_map] at hc
    refine ⟨D, S, c, rfl, hD1, by omega, fun ns q pw hm hl2 hq => ?_⟩
    have e : ns = tkA secs cars st i L := asc_of pw fun x => by
      rw [hm, hS x, List.mem_map]
    subst e
    have hq0 : H q = none := by
      cases h : H q with
      | none => rfl
      | some o => have := s1 _ _ h; rw [this] at hq; cases hq
    exact k _ q (s1.trans (sameNew hq _)) hq0 upd_same
end
end Sl

set_option Elab.async false
set_option linter.all false
set_option maxRecDepth 100000
set_option maxHeartbeats 4000000
namespace Sl
open PySem PySem.Spec L2 OwnR LamX
/-- the first place of the greatest -/
def IsBest (l : List Int) (j : Nat) : Prop := ∃ m, l[j]? = some m ∧ (∀ y ∈ l, y ≤ m) ∧ ∀ q, q < j → l[q]? ≠ some m
theorem best_uniq {l : List Int} {i j : Nat} (a : IsBest l i) (b : IsBest l j) : i = j := by
  obtain ⟨m, a1, a2, a3⟩ := a
  obtain ⟨n, b1, b2, b3⟩ := b
  have h1 := a2 n (List.mem_of_getElem? b1)
  have h2 := b2 m (List.mem_of_getElem? a1)
  have e : m = n := by omega
  subst e
  rcases Nat.lt_trichotomy i j with h | h | h
  · exact absurd a1 (b3 i h)
  · exact h
  · exact absurd b1 (a3 j h)
def posI (m : Int) : List Int → Nat
  | [] => 0
  | a :: r => if a = m then 0 else posI m r + 1
theorem posI_at {m : Int} : ∀ {l : List Int}, m ∈ l → l[posI m l]? = some m
  | a :: r, h => by
    unfold posI
    by_cases e : a = m
    · rw [if_pos e, e]
      rfl
    · rw [if_neg e]
      rcases List.mem_cons.mp h with h | h
      · exact absurd h.symm e
      · exact posI_at h
theorem posI_not {m : Int} : ∀ {l : List Int} {q : Nat} {z : Int}, l[q]? = some z → q < posI m l → z ≠ m
  | a :: r, q, z, h, hm => by
    unfold posI at hm
    by_cases e : a = m
    · rw [if_pos e] at hm
      omega
    · rw [if_neg e] at hm
      cases q with
      | zero =>
        cases h
        exact e
      | succ q => exact posI_not (l := r) h (by omega)
theorem eqV_int (a b : Int) : eqV (.int a) (.int b) = decide (a = b) := by
  show (a == b) = decide (a = b)
  by_cases h : a = b
  · rw [h]; simp
  · rw [decide_eq_false h]; simpa using h
theorem flat_ints (l : List Int) : (l.map V.int).all flatV = true := by
  induction l with
  | nil => rfl
  | cons y r ih => rw [List.map_cons, List.all_cons, ih]; rfl
section
variable {P : Program} {w : World} {K : PySem.W.Frag} {mg : Str → Option Value} {base : Heap}
/-- xs.index(max(xs)) -/
theorem best_rd {H : Hp} {a : Addr} {l : List Int} {m : Int} {Q : VK} (ha : H a = some (.lst (l.map V.int))) (hm : m ∈ l) (hmax : ∀ y ∈ l, y ≤ m) (h : ∀ j, IsBest l j → Q (.int ((j : Nat) : Int)) H) : rIndex K (.ref a) [.int m] H Q :=
  ⟨a, _, .int m, posI m l, .int m, rfl, rfl, SqL.of ha, rfl, flat_ints _, map_atZ V.int (posI_at hm), by rw [eqV_int]; exact decide_eq_true rfl, fun q z' hq hz => by
    rw [List.getElem?_map] at hz
    obtain ⟨y, hy, rfl⟩ := Option.map_eq_some_iff.mp hz
    rw [eqV_int]
    exact decide_eq_false (posI_not hy hq), h _ ⟨m, posI_at hm, hmax, fun q hq e => posI_not e hq rfl⟩⟩
/-- how many ticks are possible, place by place -/
def szL (secs : List Sec) (cars : List Car) (st : Nat) (L : List Nat) : List Int := (List.range (secs.length + 1)).map fun i => ((tkA secs cars st i L).length : Int)
def spBest (CH C : Addr) : Sp := fun vs H Q _ => ∃ (p dx : Addr) (secs : List Sec) (cars : List Car) (st : Nat) (L : List Nat) (hist : List (List V)) (cl dd hl : Addr), vs = [.ref p] ∧ HPat CH C H p dx secs cars st L hist cl dd hl ∧ secs.length ≤ 12 ∧ ∀ H' j, Same H H' → IsBest (szL secs cars st L) j → Q (.int ((j : Nat) : Int)) H'
def nBest : List Str := ["self", "many", "place"]
theorem scBest : FnScope nBest ["self"] (defScope sHiddenPaceBestPlace) := ⟨rfl, rfl, rfl, by decide +kernel, rfl, by decide +kernel, by decide +kernel⟩
theorem ok_best {f fP CH C : Addr} {fd dP : FuncData} (F : Fm K CH "best_place" "HiddenPace.best_place" sHiddenPaceBestPlace ["self"] f fd) (M : Mg mg) (MX : mg "max" = none) (HT : HidT K CH)
    (BP : Fm K CH "possible_ticks" "HiddenPace.possible_ticks" sHiddenPacePossibleTicks ["self", "place"] fP dP) (GP : FnOk P w K mg base CX0 5 fP dP ["self", "place"] (spPoss CH C)) : FnOk P w K mg base CX0 6 f fd ["self"] (spBest CH C) := by
  refine F.fn.ok scBest (fun vs H Q E h => ?_) (fun cdv A outer s H vs Q E hr h => ?_)
  · obtain ⟨p, dx, secs, cars, st, L, hist, cl, dd, hl, rfl, _⟩ := h
    rfl
  · obtain ⟨p, dx, secs, cars, st, L, hist, cl, dd, hl, rfl, HP, h12, k⟩ := h
    have nd := scBest.nd
    refine ⟨_, pss_cons (ps_setLc (i := 1) (own := [("place", 2)]) (g := gName 2) (tt := tYes) (te := tCB (fun xs H Q => ∃ p ys, xs = [V.ref p] ∧ (SqL K H p ys ∨ SqT K H p ys) ∧ Q (V.int ys.length) H) (tCons (tMeth CH "possible_ticks" (spPoss CH C) [] L2.E0 (tVar 0) (tCons (tVar 2) tNil)) tNil)) (by rfl) nd rfl rfl (sw_true rfl rfl rfl (by decide +kernel)) (pi_range1 (by rfl) M.range (pa_cons (pe_op op_add (pe_fld (pv 0) rfl) pe_int) pa_nil)) (blkOk_by (N := nBest) (sc := defScope sHiddenPaceBestPlace) (by decide +kernel))
        (fun _ _ _ _ _ => pg_name (i := 2) nd rfl (Or.inl rfl)) (fun _ _ _ _ _ => pts_nil) (fun _ _ _ _ _ => pe_callB call_len_seq (by rfl) M.len boot_len (pa_cons (pe_meth (pv 0) HT.cl BP.at_ GP hr BP.bd .nil pass0 (pa_cons (pv 2) pa_nil)) pa_nil)))
      (pss_one (ps_ret (pe_bm PySem.F.plainAttrs_list PySem.F.slot_list_index PySem.F.type_list_index mt_index (pv 1) (pa_cons (pe_callB (cr_max rfl) (by rfl) MX (by decide +kernel) (pa_cons (pv 1) pa_nil)) pa_nil)))), ?_⟩
    have hno : ∀ {m : Str}, ¬ ("_name" : Str) = m → ¬ ("_last_place" : Str) = m → ¬ ("_candidates" : Str) = m → ¬ ("_drives" : Str) = m → ¬ ("_history" : Str) = m → (hf secs.length cl dd hl).lookup m = none := fun a b c d e => hf_no _ _ _ _ a b c d e
    refine ⟨_, rfl, p, CH, dx, _, _, rfl, HP.ins, HT.cl, HT.nl, hf_l _ _ _ _, _, _, rfl, rfl, _, rfl, by omega, by omega, fun D hD => ?_⟩
    have en : (((secs.length : Nat) : Int) + 1).toNat = secs.length + 1 := by omega
    rw [en]
    refine lc_it walk_range (fun i H1 => Same H H1 ∧ H1 D = some (.lst (((List.range i).map fun i => ((tkA secs cars st i L).length : Int)).map V.int))) ⟨sameNew hD _, upd_same⟩ (fun _ _ _ _ => True.intro) ?_ ?_
    · rintro i y Hz H1 hi ⟨s1, hD1⟩ ⟨e, hy⟩
      have hy : y = V.int ((i : Nat) : Int) := by
        rw [hy]
        show V.int (0 + ((i : Nat) : Int)) = _
        rw [Int.zero_add]
      subst e hy
      have HP1 := HP.ext (ExtN.same s1)
      refine ⟨rfl, yes_of ⟨_, rfl, p, dx, _, rfl, HP1.ins, hno (by decide +kernel) (by decide +kernel) (by decide +kernel) (by decide +kernel) (by decide +kernel), _, rfl, p, dx, secs, cars, st, L, hist, cl, dd, hl, i, rfl, HP1, by omega, h12, fun H2 l s2 _ hl2 => ⟨l, _, rfl, .inl (SqL.of hl2), _, s2 _ _ hD1, ?_, fun b o e2 => by rw [upd_ne (ne_of_none e2 hD)]; exact s2 _ _ (s1 _ _ e2), ?_⟩⟩⟩
      · rw [List.length_map, List.length_map, List.length_range]
        exact small1000 (by omega)
      · rw [upd_same, List.length_map, List.range_succ, List.map_append, List.map_append]
        rfl
    rintro H1 ⟨s1, hD1⟩
    refine ⟨_, rfl, .inl ⟨rfl, _, SqL.of hD1⟩, _, rfl, D, _, rfl, SqL.of hD1, by rw [List.length_map, List.length_range]; omega, fun m hm hmax => ?_⟩
    show rIndex K (.ref D) [.int m] H1 Q
    exact best_rd hD1 hm hmax fun j hj => k _ j s1 hj
end
end Sl

set_option Elab.async false
set_option linter.all false
set_option maxRecDepth 100000
set_option maxHeartbeats 2000000
/-! _law_raised: None, or what the error is. -/
namespace Sl
open PySem PySem.Spec L2 OwnR LamX
/-- the classes that it knows -/
structure RsTab (mg : Str → Option Value) (CE c0 c1 c2 c3 c4 c5 : Addr) : Prop where
  gE : mg "RoadError" = some (.ref CE)
  g0 : mg "UnknownCar" = some (.ref c0)
  g1 : mg "InvalidNumber" = some (.ref c1)
  g2 : mg "InvalidName" = some (.ref c2)
  g3 : mg "Contradiction" = some (.ref c3)
  g4 : mg "InvalidOperation" = some (.ref c4)
  g5 : mg "TooManyCars" = some (.ref c5)
  gv : mg "ValueError" = none
/-- a contradiction -/
structure RsC (K : PySem.W.Frag) (CE c0 c1 c2 c3 c4 c5 : Addr) : Prop where
  e : ErrC K c3
  x : PySem.W.exmOne K (.ref c3) (.ref CE) = some true
  k0 : PySem.W.kitOne K (.ref c3) (.ref c0) = some false
  k1 : PySem.W.kitOne K (.ref c3) (.ref c1) = some false
  k2 : PySem.W.kitOne K (.ref c3) (.ref c2) = some false
  k3 : PySem.W.kitOne K (.ref c3) (.ref c3) = some true
  k4 : PySem.W.kitOne K (.ref c3) (.ref c4) = some false
  k5 : PySem.W.kitOne K (.ref c3) (.ref c5) = some false
  kv : PySem.W.kitOne K (.ref c3) (.type "ValueError") = some true
def raisedR (c3 : Addr) (cls : Value) (d : Option Addr) (H : Hp) (Q : VK) : Prop := cls = .ref c3 ∧ d = none ∧ ∀ H' p, Same H H' → H' p = some (.tup [.str "contradiction"]) → Q (.ref p) H'
def TRai (c3 : Addr) : (XK → Hp → VK → Prop) → Hp → VK → Prop := fun tl H Q => tl (fun cls d H' => raisedR c3 cls d H' Q) H (fun _ H' => Q .non H')
def nRaised : List Str := ["_law_work", "e", "_law_kinds"]
theorem scRaised : FnScope nRaised ["_law_work"] (defScope sRaised) := ⟨rfl, rfl, rfl, by decide +kernel, rfl, by decide +kernel, by decide +kernel⟩
def tIsV (K : PySem.W.Frag) (C a : Addr) (d : Option Addr) (c : V) : TE := tCB (rIsV K C a d) (tCons (tVar 1) (tCons (tC c) tNil))
def tSuite (K : PySem.W.Frag) (c0 c1 c2 c3 c4 c5 a : Addr) (d : Option Addr) : TS :=
  tSeq (tAsg (tLst (tCons (tIsV K c3 a d (.ref c0)) (tCons (tIsV K c3 a d (.ref c1)) (tCons (tIsV K c3 a d (.ref c2)) tNil)))) (gName 2))
  (tSeq (tAsg (tOp rCat (tVar 2) (tLst (tCons (tIsV K c3 a d (.ref c3)) (tCons (tIsV K c3 a d (.ref c4)) (tCons (tIsV K c3 a d (.ref c5)) tNil))))) (gName 2))
  (tSeq (tIfS (tOr (tTest (tOp rNe (tBM K "list" (rCntV K) (tVar 2) (tCons (tC (.bl true)) tNil)) (tC (.int 1)))) (tNot (tB (tIsV K c3 a d (.ty "ValueError"))))) (tRet (tTup (tCons (tC (.str "other")) tNil))) tNext)
  (tSeq (tIfS (tB (tOp (rIxL K) (tVar 2) (tC (.int 0)))) (tRet (tTup (tCons (tC (.str "car")) (tCons (tXf a (.ref c3) d c3 "name" (tVar 1)) tNil)))) tNext)
  (tSeq (tIfS (tB (tOp (rIxL K) (tVar 2) (tC (.int 4)))) (tRet (tTup (tCons (tC (.str "operation")) (tCons (tXf a (.ref c3) d c3 "index" (tVar 1)) tNil)))) tNext)
  (tRet (tTup (tCons (tOp (rIxL K) (tLst (tCons (tC (.str "car")) (tCons (tC (.str "number")) (tCons (tC (.str "name")) (tCons (tC (.str "contradiction")) (tCons (tC (.str "operation")) (tCons (tC (.str "many")) tNil))))))) (tBM K "list" (rIndex K) (tVar 2) (tCons (tC (.bl true)) tNil))) tNil)))))))
theorem pss_and {X : Cx} {l : List Stmt} {p : Prop} {t : TS} (h : p → PSs X l t) : PSs X l (fun D σ H => p ∧ t D σ H) := ⟨fun pins s σ H D I ⟨a, q⟩ => (h a).run pins s σ H D I q⟩
theorem raised_gives {P : Program} {w : World} {K : PySem.W.Frag} {mg : Str → Option Value} {base : Heap} {A : Around} {stack : List Env} {g : Addr} {cdg : Value} {CE c0 c1 c2 c3 c4 c5 : Addr} (M : Mg mg) (W : RsTab mg CE c0 c1 c2 c3 c4 c5) (J : RsC K CE c0 c1 c2 c3 c4 c5) :
    GivesV P w K mg base A stack nRaised "_law_raised" (defScope sRaised) g cdg (defBody sRaised) "_law_work" (TRai c3) := by
  intro f s H Q Held tl act hH h
  have nd := scRaised.nd
  refine ⟨_, pss_cons (ps_try_as (X := (cxOf L2.CX0 P w K mg base nRaised "_law_raised" (defScope sRaised) g cdg A stack s H L2.E0).nox) (c := .ref CE) (i := 1)
      (tb := fun W D σ H => ∃ Ech : XK, (∀ cls d σ' H', σ'.length = nRaised.length → Ech cls d H' → W cls d σ' H') ∧ σ[0]? = some (some (.ref f)) ∧ Held H ∧ tl Ech H (fun _ H1 => D.nx σ H1))
      (ts := fun a cls d D σ H => cls = .ref c3 ∧ tSuite K c0 c1 c2 c3 c4 c5 a d D σ H)
      rfl rfl nd rfl rfl ⟨rfl, by decide, .inl W.gE⟩ LamX.takes0 (fun W pn xe tk _ => ⟨fun pins s' σ H' D I h' => ?_⟩) (fun a oe cls d pn hz hf => ?_)) (pss_one (ps_ret pe_non)), ?_⟩
  · obtain ⟨Ech, hW, h1, h2, h3⟩ := h'
    exact (pss_one (ps_expr (act W pn xe Ech _ _ tk hW))).run pins s' σ H' D I ⟨h1, h2, h3⟩
  · refine pss_and fun hc => ?_
    have hz2 : Zc (.ref c3) d oe := by rw [← hc]; exact hz
    exact (pss_cons (ps_set (i := 2) nd rfl (.inl rfl) (pe_lst (pa_cons (pe_callB (call_isV J.e hz2 hf) (by rfl) M.isinstance boot_isinstance (pa_cons (pv 1) (pa_cons (pe_glob (v := .ref c0) (by rfl) W.g0 rfl) pa_nil))) (pa_cons (pe_callB (call_isV J.e hz2 hf) (by rfl) M.isinstance boot_isinstance (pa_cons (pv 1) (pa_cons (pe_glob (v := .ref c1) (by rfl) W.g1 rfl) pa_nil))) (pa_cons (pe_callB (call_isV J.e hz2 hf) (by rfl) M.isinstance boot_isinstance (pa_cons (pv 1) (pa_cons (pe_glob (v := .ref c2) (by rfl) W.g2 rfl) pa_nil))) pa_nil))))) (pss_cons (ps_set (i := 2) nd rfl (.inl rfl) (pe_op op_cat (pv 2) (pe_lst (pa_cons (pe_callB (call_isV J.e hz2 hf) (by rfl) M.isinstance boot_isinstance (pa_cons (pv 1) (pa_cons (pe_glob (v := .ref c3) (by rfl) W.g3 rfl) pa_nil))) (pa_cons (pe_callB (call_isV J.e hz2 hf) (by rfl) M.isinstance boot_isinstance (pa_cons (pv 1) (pa_cons (pe_glob (v := .ref c4) (by rfl) W.g4 rfl) pa_nil))) (pa_cons (pe_callB (call_isV J.e hz2 hf) (by rfl) M.isinstance boot_isinstance (pa_cons (pv 1) (pa_cons (pe_glob (v := .ref c5) (by rfl) W.g5 rfl) pa_nil))) pa_nil)))))) (pss_cons (ps_if (PW.pt (pw_or (pt_cmpR op_ne (pe_bm PySem.F.plainAttrs_list PySem.F.slot_list_count PySem.F.type_list_count mt_countV (pv 2) (pa_cons pe_bl pa_nil)) pe_int (nomark _)) (pw_or1 (pt_not (pt_val (pe_callB (call_isV J.e hz2 hf) (by rfl) M.isinstance boot_isinstance (pa_cons (pv 1) (pa_cons (pe_bltn (v := .ty "ValueError") (by rfl) W.gv PyProof.Rows.Boot.«ValueError» rfl) pa_nil)))))))) (pss_one (ps_ret (pe_tup (pa_cons pe_str pa_nil)))) pss_nil) (pss_cons (ps_if (pt_val (pe_ix ix_list (pv 2) pe_int (fun _ _ => rfl))) (pss_one (ps_ret (pe_tup (pa_cons pe_str (pa_cons (pe_xf J.e.xf J.e.nm hz2 hf (pv 1)) pa_nil))))) pss_nil) (pss_cons (ps_if (pt_val (pe_ix ix_list (pv 2) pe_int (fun _ _ => rfl))) (pss_one (ps_ret (pe_tup (pa_cons pe_str (pa_cons (pe_xf J.e.xf J.e.ix hz2 hf (pv 1)) pa_nil))))) pss_nil) (pss_one (ps_ret (pe_tup (pa_cons (pe_ix ix_list (pe_lst (pa_cons pe_str (pa_cons pe_str (pa_cons pe_str (pa_cons pe_str (pa_cons pe_str (pa_cons pe_str pa_nil))))))) (pe_bm PySem.F.plainAttrs_list PySem.F.slot_list_index PySem.F.type_list_index mt_index (pv 2) (pa_cons pe_bl pa_nil)) (fun _ _ => rfl)) pa_nil)))))))))
  · refine ⟨fun cls d H' => raisedR c3 cls d H' Q, ?_, rfl, hH, h⟩
    rintro cls d σ' H1 hl ⟨rfl, rfl, hQ⟩
    obtain ⟨x0, x1, x2, rfl⟩ : ∃ x0 x1 x2, σ' = [x0, x1, x2] := by
      match σ', hl with
      | [x0, x1, x2], _ => exact ⟨x0, x1, x2, rfl⟩
    refine ⟨true, J.x, fun _ a ha => ⟨rfl, ?_⟩, fun z => nomatch z⟩
    show tSuite K c0 c1 c2 c3 c4 c5 a none _ _ H1
    have isv : ∀ {σ : L2.St} {H2 : Hp} {c : V} {cv : Value} {b : Bool} {Q2 : VK}, σ[1]? = some (some (.ref a)) → (∀ u, RelV c u → u = cv) → PySem.W.kitOne K (.ref c3) cv = some b → Q2 (.bl b) H2 → tIsV K c3 a none c σ H2 Q2 :=
      fun hσ hc hk hq => ⟨_, hσ, _, _, _, rfl, hc, hk, .inl rfl, hq⟩
    unfold tSuite
    refine isv rfl (fun u e => e) J.k0 (isv rfl (fun u e => e) J.k1 (isv rfl (fun u e => e) J.k2 ⟨by show 3 ≤ sizeLine; decide, fun p1 hp1 => ?_⟩))
    have s1 := sameNew hp1 (.lst [.bl false, .bl false, .bl false])
    refine ⟨_, rfl, isv rfl (fun u e => e) J.k3 (isv rfl (fun u e => e) J.k4 (isv rfl (fun u e => e) J.k5 ⟨by show 3 ≤ sizeLine; decide, fun p2 hp2 => ?_⟩))⟩
    have s2 := s1.trans (sameNew hp2 (.lst [.bl true, .bl false, .bl false]))
    refine ⟨p1, p2, [.bl false, .bl false, .bl false], [.bl true, .bl false, .bl false], rfl, rfl, sameNew hp2 _ _ _ upd_same, upd_same, by show 6 ≤ sizeLine; decide, fun p3 hp3 => ?_⟩
    have s3 := s2.trans (sameNew hp3 (.lst [.bl false, .bl false, .bl false, .bl true, .bl false, .bl false]))
    have h3 : upd (upd (upd H1 p1 (.lst [.bl false, .bl false, .bl false])) p2 (.lst [.bl true, .bl false, .bl false])) p3 (.lst [.bl false, .bl false, .bl false, .bl true, .bl false, .bl false]) p3 = some (.lst [.bl false, .bl false, .bl false, .bl true, .bl false, .bl false]) := upd_same
    refine ⟨_, rfl, .inl ⟨rfl, _, SqL.of h3⟩, p3, [.bl false, .bl false, .bl false, .bl true, .bl false, .bl false], .bl true, rfl, rfl, SqL.of h3, rfl, rfl, rfl, _, rfl, iteF ?_⟩
    refine isv rfl (fun u e => e) J.kv ⟨true, rfl, iteF ?_⟩
    refine ⟨_, rfl, p3, _, ((0 : Nat) : Int), .bl false, rfl, rfl, SqL.of h3, atI_nat rfl, _, rfl, iteF ?_⟩
    refine ⟨_, rfl, p3, _, ((4 : Nat) : Int), .bl false, rfl, rfl, SqL.of h3, atI_nat rfl, _, rfl, iteF ?_⟩
    refine ⟨by show 6 ≤ sizeLine; decide, fun p4 hp4 => ?_⟩
    have q4 := sameNew hp4 (.lst [.str "car", .str "number", .str "name", .str "contradiction", .str "operation", .str "many"])
    have s4 := s3.trans q4
    have h4 := q4 _ _ h3
    refine ⟨_, rfl, .inl ⟨rfl, _, SqL.of h4⟩, p3, [.bl false, .bl false, .bl false, .bl true, .bl false, .bl false], .bl true, 3, .bl true, rfl, rfl, SqL.of h4, rfl, rfl, rfl, rfl, fun m z' hm e => ?_, ?_⟩
    · match m, hm, e with
      | 0, _, e => cases e; rfl
      | 1, _, e => cases e; rfl
      | 2, _, e => cases e; rfl
    refine ⟨p4, _, ((3 : Nat) : Int), .str "contradiction", rfl, rfl, SqL.of upd_same, atI_nat rfl, by show 1 ≤ sizeLine; decide, fun p hp => ?_⟩
    exact hQ _ p (s4.trans (sameNew hp _)) upd_same
end Sl

set_option Elab.async false
set_option linter.all false
set_option maxRecDepth 100000
set_option maxHeartbeats 4000000
namespace Sl
open PySem PySem.Spec L2 OwnR LamX
/-! ### what a draw keeps, what a told one keeps -/
section
variable {K : PySem.W.Frag} {H H' : Hp} {r sc : Addr} {ns : List Int}
theorem RowAt.neR (R : RowAt K H r sc ns) {a : Addr} {l : List Addr} (h : H a = some (.lst (l.map V.ref))) : a ≠ r := fun z => by
  obtain ⟨x, b, c, e⟩ := R.at_
  rw [z, e] at h
  cases l with
  | nil => cases h
  | cons u q =>
    cases q with
    | nil => cases h
    | cons v w => cases h
theorem RowAt.neI (R : RowAt K H r sc ns) {a : Addr} {l : List Int} (h : H a = some (.lst (l.map V.int))) : a ≠ r := fun z => by
  obtain ⟨x, b, c, e⟩ := R.at_
  rw [z, e] at h
  cases l with
  | nil => cases h
  | cons u q => cases h
theorem RowAt.neS (R : RowAt K H r sc ns) {a : Addr} {l : List Str} (h : H a = some (.lst (l.map V.str))) : a ≠ r := fun z => by
  obtain ⟨x, b, c, e⟩ := R.at_
  rw [z, e] at h
  cases l with
  | nil => cases h
  | cons u q => cases h
theorem RowAt.neO (R : RowAt K H r sc ns) {a : Addr} {o : HO} (h : H a = some o) (n : ∀ xs, o ≠ .lst xs) : a ≠ r := by
  obtain ⟨x, b, c, e⟩ := R.at_
  exact ne_of h e (n _)
theorem DA.keep {C p : Addr} {secs : List Sec} {cars : List Car} (D : DA C H p secs cars) (R : RowAt K H r sc ns) (k : KeepB r H H') : DA C H' p secs cars := by
  obtain ⟨H0, W, D⟩ := D
  have kr : ∀ (a : Addr) (l : List Addr), H a = some (.lst (l.map V.ref)) → H' a = some (.lst (l.map V.ref)) := fun a l h => k _ _ h (R.neR h)
  have ks : ∀ (a : Addr) (l : List Str), H a = some (.lst (l.map V.str)) → H' a = some (.lst (l.map V.str)) := fun a l h => k _ _ h (R.neS h)
  have ko : ∀ (a : Addr) (o : HO), H a = some o → (∀ xs, o ≠ .lst xs) → H' a = some o := fun a o h n => k _ _ h (R.neO h n)
  refine ⟨fun _ => none, W, { D with ext := (fun b o e _ => nomatch e), ins := ko _ _ D.ins (fun _ z => nomatch z), sec := ?_, pac := ko _ _ D.pac (fun _ z => nomatch z), lt := kr _ _ D.lt, lo := kr _ _ D.lo, ll := kr _ _ D.ll, tk := (fun q d h => ?_), od := (fun q d h => ks _ _ (D.od q d h)), ld := (fun q d h => ?_), newp := (fun b o e => nomatch e), newt := (fun b o e => nomatch e), newo := (fun b o e => nomatch e), newl := (fun b o e => nomatch e), newg := (fun _ _ _ _ z => nomatch z) }⟩
  · obtain ⟨ts, a1, a2, a3⟩ := D.sec
    exact ⟨ts, ko _ _ a1 (fun _ z => nomatch z), a2, fun i t s e1 e2 => ko _ _ (a3 i t s e1 e2) (fun _ z => nomatch z)⟩
  · obtain ⟨kv, a, b⟩ := D.tk q d h
    exact ⟨kv, ko _ _ a (fun _ z => nomatch z), b⟩
  · obtain ⟨kv, a, b⟩ := D.ld q d h
    exact ⟨kv, ko _ _ a (fun _ z => nomatch z), b⟩
/-- what neither a draw nor a told one touches -/
inductive Nice : HO → Prop
  | tup (xs : List V) : Nice (.tup xs)
  | dk (kv : List (Key × V)) : Nice (.dK kv)
  | refs (l : List Addr) : Nice (.lst (l.map V.ref))
  | nums (l : List Int) : Nice (.lst (l.map V.int))
  | txts (l : List Str) : Nice (.lst (l.map V.str))
def NK (H H' : Hp) : Prop := ∀ b o, H b = some o → Nice o → H' b = some o
/-- all but objects and tables stays -/
def Kg (H H' : Hp) : Prop := ∀ b o, H b = some o → (∀ C d fs, o ≠ .ins C d fs) → (∀ ps, o ≠ .tbl ps) → H' b = some o
theorem Kg.nk (k : Kg H H') : NK H H' := fun b o h n => by
  cases n <;> exact k b _ h (fun _ _ _ z => nomatch z) (fun _ z => nomatch z)
theorem Kg.of (e : ExtN H H') : Kg H H' := fun b o h _ n => e b o h n
theorem Kg.same (e : Same H H') : Kg H H' := fun b o h _ _ => e b o h
theorem Kg.kp {p CH dx : Addr} {fs : List (Str × V)} (hp : H p = some (.ins CH dx fs)) (k : KpP p H H') : Kg H H' := fun b o h n t => k.get h (ne_of h hp (n _ _ _)) t
theorem NK.keep (R : RowAt K H r sc ns) (k : KeepB r H H') : NK H H' := fun b o h n => by
  cases n with
  | tup xs => exact k _ _ h (R.neO h fun _ z => nomatch z)
  | dk kv => exact k _ _ h (R.neO h fun _ z => nomatch z)
  | refs l => exact k _ _ h (R.neR h)
  | nums l => exact k _ _ h (R.neI h)
  | txts l => exact k _ _ h (R.neS h)
theorem RowAt.kg (R : RowAt K H r sc ns) (k : Kg H H') : RowAt K H' r sc ns := by
  obtain ⟨a, b, c, e⟩ := R.at_
  refine ⟨⟨a, b, c, k _ _ e (fun _ _ _ z => nomatch z) (fun _ z => nomatch z)⟩, fun H2 k2 => ?_⟩
  have mr : ∀ {x : Addr} {o : HO}, mask r H x = some o → x ≠ r ∧ H x = some o := fun h => mask_some h
  rcases R.scr (mask r H) (fun x o h n => by rw [mask_ne n]; exact h) with (h | ⟨o, h⟩) | h
  · exact .inl (.inl (k2 _ _ (k _ _ (mr h).2 (fun _ _ _ z => nomatch z) (fun _ z => nomatch z)) (mr h).1))
  · exact .inl (.inr ⟨o, k2 _ _ (k _ _ (mr h).2 (fun _ _ _ z => nomatch z) (fun _ z => nomatch z)) (mr h).1⟩)
  · exact .inr h
theorem RunsAt.nk {a : Addr} {secs : List Sec} (h : RunsAt H a secs) (k : NK H H') : RunsAt H' a secs :=
  let ⟨ts, h1, h2, h3⟩ := h; ⟨ts, k _ _ h1 (.refs _), h2, fun i t s e1 e2 => k _ _ (h3 i t s e1 e2) (.tup _)⟩
theorem CarsAt.nk {a : Addr} {cars : List Car} (h : CarsAt H a cars) (k : NK H H') : CarsAt H' a cars :=
  let ⟨ts, h1, h2, h3⟩ := h; ⟨ts, k _ _ h1 (.tup _), h2, fun i t s e1 e2 => k _ _ (h3 i t s e1 e2) (.tup _)⟩
theorem TupsAt.nk {a : Addr} {vss : List (List V)} (h : TupsAt H a vss) (k : NK H H') : TupsAt H' a vss :=
  let ⟨ts, h1, h2, h3⟩ := h; ⟨ts, k _ _ h1 (.refs _), h2, fun i t s e1 e2 => k _ _ (h3 i t s e1 e2) (.tup _)⟩
theorem TksAt.nk {a : Addr} {secs : List Sec} {cars : List Car} (h : TksAt H a secs cars) (k : NK H H') : TksAt H' a secs cars :=
  let ⟨kt, a, b⟩ := h; ⟨kt, k _ _ a (.dk _), fun c hc => let ⟨d, x, y⟩ := b c hc; ⟨d, x, k _ _ y (.nums _)⟩⟩
theorem OrdsAt.nk {a : Addr} {secs : List Sec} {cars : List Car} (h : OrdsAt H a secs cars) (k : NK H H') : OrdsAt H' a secs cars :=
  let ⟨os, a, b, c⟩ := h; ⟨os, k _ _ a (.refs _), b, fun q d h => k _ _ (c q d h) (.txts _)⟩
/-- the drives by all paces, as the law made them -/
def DrvsAt (H : Hp) (ds : Addr) (secs : List Sec) (cars : List Car) (st : Nat) : Prop := ∃ ts : List Addr, H ds = some (.lst (ts.map V.ref)) ∧ ts.length = 60 ∧ ∀ (i : Nat) (t : Addr), ts[i]? = some t → ∃ tk od ld : Addr, H t = some (.tup [.ref tk, .ref od, .ref ld]) ∧ TksAt H tk secs (zc cars st (i + 1)) ∧ OrdsAt H od secs (zc cars st (i + 1))
theorem DrvsAt.nk {ds : Addr} {secs : List Sec} {cars : List Car} {st : Nat} (h : DrvsAt H ds secs cars st) (k : NK H H') : DrvsAt H' ds secs cars st :=
  let ⟨ts, h1, h2, h3⟩ := h; ⟨ts, k _ _ h1 (.refs _), h2, fun i t e => let ⟨tk, od, ld, x, y, z⟩ := h3 i t e; ⟨tk, od, ld, k _ _ x (.tup _), y.nk k, z.nk k⟩⟩
theorem IntsAt.nk {a : Addr} {L : List Nat} (h : H a = some (.lst (L.map fun k => V.int ((k : Nat) : Int)))) (k : NK H H') : H' a = some (.lst (L.map fun k => V.int ((k : Nat) : Int))) := by
  have e : (L.map fun k => V.int ((k : Nat) : Int)) = (L.map fun k => ((k : Nat) : Int)).map V.int := by rw [List.map_map]; rfl
  rw [e] at h ⊢
  exact k _ _ h (.nums _)
/-- the object, after a draw -/
theorem HPat.keep {CH C p dx : Addr} {secs : List Sec} {cars : List Car} {st : Nat} {L : List Nat} {hist : List (List V)} {cl dd hl : Addr} (h : HPat CH C H p dx secs cars st L hist cl dd hl) (R : RowAt K H r sc ns) (k : KeepB r H H') : HPat CH C H' p dx secs cars st L hist cl dd hl := by
  have nk := NK.keep R k
  refine ⟨k _ _ h.ins (R.neO h.ins fun _ z => nomatch z), IntsAt.nk h.cd nk, ?_, h.hs.nk nk, h.pc, h.few⟩
  obtain ⟨kv, h1, h2⟩ := h.dr
  refine ⟨kv, nk _ _ h1 (.dk _), fun q q1 q2 => ?_⟩
  obtain ⟨d, d1, d2, d3⟩ := h2 q q1 q2
  exact ⟨d, d1, d2, d3.keep R k⟩
theorem Tabs.row {T : List (Addr × Str)} (t : Tabs T H) (R : RowAt K H r sc ns) (k : KeepB r H H') : Tabs T H' := Tabs.keepL t fun b o h n => k _ _ h (R.neO h n)
/-- what stands throughout the turns -/
structure LawZ (K : PySem.W.Frag) (T : List (Addr × Str)) (H : Hp) (r sc l a ds : Addr) (ns : List Int) (secs : List Sec) (cars : List Car) (st : Nat) : Prop where
  row : RowAt K H r sc ns
  tab : Tabs T H
  rn : RunsAt H l secs
  ca : CarsAt H a cars
  dl : DrvsAt H ds secs cars st
theorem LawZ.kg {T : List (Addr × Str)} {l a ds : Addr} {secs : List Sec} {cars : List Car} {st : Nat} (F : LawZ K T H r sc l a ds ns secs cars st) (k : Kg H H') (t : Tabs T H') : LawZ K T H' r sc l a ds ns secs cars st :=
  ⟨F.row.kg k, t, F.rn.nk k.nk, F.ca.nk k.nk, F.dl.nk k.nk⟩
theorem LawZ.same {T : List (Addr × Str)} {l a ds : Addr} {secs : List Sec} {cars : List Car} {st : Nat} (F : LawZ K T H r sc l a ds ns secs cars st) (e : Same H H') : LawZ K T H' r sc l a ds ns secs cars st := F.kg (Kg.same e) (F.tab.ext e)
theorem LawZ.keep {T : List (Addr × Str)} {l a ds : Addr} {secs : List Sec} {cars : List Car} {st : Nat} (F : LawZ K T H r sc l a ds ns secs cars st) (k : KeepB r H H') (R : RowAt K H' r sc ns) : LawZ K T H' r sc l a ds ns secs cars st :=
  let nk := NK.keep F.row k; ⟨R, Tabs.row F.tab F.row k, F.rn.nk nk, F.ca.nk nk, F.dl.nk nk⟩
theorem LawZ.kp {T : List (Addr × Str)} {l a ds p CH dx : Addr} {fs : List (Str × V)} {secs : List Sec} {cars : List Car} {st : Nat} (F : LawZ K T H r sc l a ds ns secs cars st) (hp : H p = some (.ins CH dx fs)) (k : KpP p H H') : LawZ K T H' r sc l a ds ns secs cars st := F.kg (Kg.kp hp k) (k.tab T F.tab)
end
theorem TksAt.put {H : Hp} {D a : Addr} {ts : List Addr} {secs : List Sec} {cars : List Car} (hD : H D = some (.lst (ts.map V.ref))) (o : HO) (h : TksAt H a secs cars) : TksAt (upd H D o) a secs cars := by
  obtain ⟨kt, h1, h2⟩ := h
  refine ⟨kt, by rw [upd_ne (ne_of h1 hD (by intro z; cases z))]; exact h1, fun c hc => ?_⟩
  obtain ⟨d, x, y⟩ := h2 c hc
  refine ⟨d, x, ?_⟩
  rw [upd_ne (ne_of y hD fun z => ?_)]
  · exact y
  · have e := congrArg (fun l : List V => l[0]?) (HO.lst.inj z)
    have h0 : (tkl secs cars secs.length c.name)[0]? = some ((plcC secs cars 0).tk c.name) := tks_at (Nat.zero_le _)
    have e : ((tkl secs cars secs.length c.name).map V.int)[0]? = (ts.map V.ref)[0]? := e
    rw [List.getElem?_map, List.getElem?_map, h0] at e
    cases ht : ts[0]? with
    | none => rw [ht] at e; cases e
    | some t => rw [ht] at e; cases e
theorem OrdsAt.put {H : Hp} {D a : Addr} {ts : List Addr} {secs : List Sec} {cars : List Car} (hD : H D = some (.lst (ts.map V.ref))) (hts : ∀ (j : Nat) (t : Addr), ts[j]? = some t → ∃ xs, H t = some (.tup xs)) (hne : cars ≠ []) (o : HO) (h : OrdsAt H a secs cars) : OrdsAt (upd H D o) a secs cars := by
  obtain ⟨os, h1, h2, h3⟩ := h
  obtain ⟨d0, hd0⟩ : ∃ d, os[0]? = some d := ⟨_, List.getElem?_eq_getElem (show 0 < os.length by omega)⟩
  refine ⟨os, ?_, h2, fun k d hd => ?_⟩
  · rw [upd_ne (ne_of h1 hD fun z => ?_)]
    · exact h1
    · have e : (os.map V.ref)[0]? = (ts.map V.ref)[0]? := congrArg (fun l : List V => l[0]?) (HO.lst.inj z)
      rw [List.getElem?_map, List.getElem?_map, hd0] at e
      cases ht : ts[0]? with
      | none => rw [ht] at e; cases e
      | some t =>
        rw [ht] at e
        have e2 : d0 = t := V.ref.inj (Option.some.inj e)
        obtain ⟨xs, hx⟩ := hts 0 t ht
        have hh := h3 0 d0 hd0
        rw [e2, hx] at hh
        cases hh
  · have hh := h3 k d hd
    rw [upd_ne (ne_of hh hD fun z => ?_)]
    · exact hh
    · obtain ⟨c, hc⟩ := List.exists_mem_of_ne_nil cars hne
      have hm : c.name ∈ (plcC secs cars k).ord := (plcC_perm secs cars k).mem_iff.mpr (List.mem_map_of_mem hc)
      have hv : V.str c.name ∈ ts.map V.ref := by
        rw [← HO.lst.inj z]
        exact List.mem_map_of_mem hm
      obtain ⟨_, _, e⟩ := List.mem_map.mp hv
      cases e
end Sl

set_option Elab.async false
set_option linter.all false
set_option maxRecDepth 100000
set_option maxHeartbeats 1000000
namespace Sl
open PySem PySem.Spec L2 OwnR LamX
theorem foll_ge (fr : Str → Int) (ord : List Str) : ∀ r ∈ foll fr ord, fr r.1 ≤ r.2.1 := by
  have h : ∀ (l : List Str) (acc : List (RowT Str)), (∀ r ∈ acc, fr r.1 ≤ r.2.1) → ∀ r ∈ l.foldl (fun acc n => acc ++ [fnext fr acc n]) acc, fr r.1 ≤ r.2.1 := by
    intro l
    induction l with
    | nil => intro acc h; exact h
    | cons n q ih =>
      intro acc h
      rw [List.foldl_cons]
      refine ih _ fun r hr => ?_
      rcases List.mem_append.mp hr with hr | hr
      · exact h r hr
      · rw [List.mem_singleton.mp hr]
        unfold fnext
        split
        · exact Int.le_refl _
        · split
          · rename_i z
            exact Int.le_of_lt z
          · exact Int.le_refl _
  exact h ord [] (fun r hr => nomatch hr)
theorem tick_ge (pace : Str → Int) (p : Pl Str) (s : Sec) {n : Str} (hn : n ∈ p.ord) : freeP pace p s.2 n ≤ (stepP pace p s).tk n := by
  unfold stepP
  cases hw : s.1 with
  | true => exact Int.le_refl _
  | false =>
    show freeP pace p s.2 n ≤ tickOf (foll (freeP pace p s.2) p.ord) n
    obtain ⟨x, hx⟩ := look_some (acc := foll (freeP pace p s.2) p.ord) (n := n) (by rw [foll_names]; exact hn)
    have h2 := hx
    unfold look at h2
    obtain ⟨r, hr, e⟩ := Option.map_eq_some_iff.mp h2
    have hm := List.mem_of_find?_eq_some hr
    have hn2 : r.1 = n := by simpa using List.find?_some hr
    have := foll_ge (freeP pace p s.2) p.ord r hm
    unfold tickOf
    rw [hx, ← e]
    rw [hn2] at this
    exact this
theorem reach_ge {secs : List Sec} {cars : List Car} (CO : CarsOk cars) {c : Car} (hc : c ∈ cars) : ∀ k, k ≤ secs.length → startOf cars c.name + c.pace * ((((secs.take k).map (·.2)).sum : Nat) : Int) ≤ (plcC secs cars k).tk c.name
  | 0, _ => by
    show startOf cars c.name + c.pace * (((0 : Nat)) : Int) ≤ startOf cars c.name
    simp
  | k + 1, h => by
    have ih := reach_ge (secs := secs) CO hc k (by omega)
    have hkl : k < secs.length := by omega
    obtain ⟨s, hs⟩ : ∃ s, secs[k]? = some s := ⟨_, List.getElem?_eq_getElem hkl⟩
    have eN : plcC secs cars (k + 1) = stepP (paceOf cars) (plcC secs cars k) s := plc_succ (paceOf cars) (pl0 cars) secs hs
    have hm : c.name ∈ (plcC secs cars k).ord := (plcC_perm secs cars k).mem_iff.mpr (List.mem_map.mpr ⟨c, hc, rfl⟩)
    have hg := tick_ge (paceOf cars) (plcC secs cars k) s hm
    rw [eN]
    refine Int.le_trans ?_ hg
    unfold freeP
    rw [tk1 hs, List.map_append, List.sum_append, paceOf_car CO.nd hc]
    have e1 : ((((List.map (·.2) (secs.take k)).sum + (List.map (·.2) [s]).sum : Nat)) : Int) = (((List.map (·.2) (secs.take k)).sum : Nat) : Int) + ((s.2 : Nat) : Int) := by simp
    rw [e1, Int.mul_add]
    omega
theorem loss_nonneg {secs : List Sec} {cars : List Car} (CO : CarsOk cars) {c : Car} (hc : c ∈ cars) : 0 ≤ lossOf secs cars c := by
  have h := reach_ge (secs := secs) CO hc secs.length (Nat.le_refl _)
  rw [List.take_length] at h
  unfold lossOf unitsN
  omega
/-! ### what the law has at hand -/
structure LawF (CR C : Addr) (H : Hp) (p l a dv tk od ld : Addr) (secs : List Sec) (cars : List Car) : Prop where
  rd : RoadAt CR H p secs
  rn : RunsAt H l secs
  cr : CarsAt H a cars
  da : DA C H dv secs cars
  tk : TksAt H tk secs cars
  od : OrdsAt H od secs cars
  ld : LdsAt H ld secs cars
theorem LawF.same {CR C : Addr} {H H' : Hp} {p l a dv tk od ld : Addr} {secs : List Sec} {cars : List Car} (F : LawF CR C H p l a dv tk od ld secs cars) (e : Same H H') : LawF CR C H' p l a dv tk od ld secs cars where
  rd := F.rd.ext (ExtN.same e)
  rn := F.rn.ext (ExtN.same e)
  cr := F.cr.ext (ExtN.same e)
  da := F.da.ext (ExtN.same e)
  tk := let ⟨kt, a, b⟩ := F.tk; ⟨kt, e _ _ a, fun c hc => let ⟨d, x, y⟩ := b c hc; ⟨d, x, e _ _ y⟩⟩
  od := let ⟨os, a, b, c⟩ := F.od; ⟨os, e _ _ a, b, fun k d h => e _ _ (c k d h)⟩
  ld := let ⟨ls, a, b, c⟩ := F.ld; ⟨ls, e _ _ a, b, fun k d h => let ⟨kv, x, y⟩ := c k d h; ⟨kv, e _ _ x, y⟩⟩
/-- an instance is called -/
def InsH (H : Hp) (a C : Addr) : Prop := (∃ dx vs, SlX.Slt H a C dx vs) ∨ ∃ dx fs, H a = some (.ins C dx fs)
def tCallH (C : Addr) (sp : Sp) (E : XK) (tf : TE) (t : TA) : TE := fun σ H Q => tf σ H fun y H1 => ∃ a, y = V.ref a ∧ t σ H1 fun vs H2 => InsH H2 a C ∧ sp (V.ref a :: vs) H2 Q E
theorem pe_callH {X : Cx} {CX : CXT} {k : Nat} {C : Addr} {sp : Sp} {E : XK} {e fe : Expr} {es : List Expr} {tf : TE} {t : TA} {pos : Pos} {g : Addr} (hf : PE X fe tf) (c : StX.CallO X.K C g) (F : FnR X.prog X.w X.K X.mg X.base CX k g sp) (hr : Room k X.A) (hx : Passes CX X E) (ha : PA X (e :: es) t)
    (ht : eval (.Call fe (e :: es) [] pos) X.env = (do callWith pos (← eval fe X.env) [] (backTo pos (starEach (e :: es) X.env)) (backToKw pos (keywordEach [] X.env))) := by rfl)
    (he : starEach (e :: es) X.env = (false, eval e X.env) :: starEach es X.env := by rfl) (hpl : (backTo pos (starEach es X.env)).any (·.1) = false := by rfl) : PE X (.Call fe (e :: es) [] pos) (tCallH C sp E tf t) := StX.pe_callO hf c F hr hx ha ht he hpl
end Sl

set_option Elab.async false
set_option linter.all false
set_option maxRecDepth 100000
set_option maxHeartbeats 1000000
namespace Sl
open PySem PySem.Spec L2 OwnR LamX
/-! ### what the law compares, as data -/
def NamesOk (cars : List Car) : Prop := ∀ n ∈ names cars, PyData.strOk n = true
theorem namesOk {cars : List Car} (CO : CarsOk cars) : NamesOk cars := fun n hn => by
  obtain ⟨c, hc, rfl⟩ := List.mem_map.mp hn
  obtain ⟨_, _, h⟩ := (CO.all c hc).nm
  unfold PyData.strOk
  rw [Array.all_eq_true_iff_forall_mem]
  intro x hx
  have := h x (by rw [Array.mem_toList_iff]; exact hx)
  simp
  omega
def intsD (l : List Int) : PyData := .list (l.map PyData.int)
theorem shp_intsD (l : List Int) : Shp 1 (intsD l) := shp_list fun d hd => by
  obtain ⟨i, _, rfl⟩ := List.mem_map.mp hd
  exact shp_int i
theorem dp_ints {K : PySem.W.Frag} {H : Hp} {a : Addr} {l : List Int} (h : H a = some (.lst (l.map V.int))) : Dp K H (.ref a) (intsD l) := .lst (SqL.of h) (dp_vals V.int PyData.int (fun i => .int i) l)
def strsD (l : List Str) : PyData := .list (l.map PyData.str)
theorem shp_strsD {l : List Str} (h : ∀ n ∈ l, PyData.strOk n = true) : Shp 1 (strsD l) := shp_list fun d hd => by
  obtain ⟨i, hi, rfl⟩ := List.mem_map.mp hd
  exact shp_str (h i hi)
theorem dp_strs {K : PySem.W.Frag} {H : Hp} {a : Addr} {l : List Str} (h : H a = some (.lst (l.map V.str))) : Dp K H (.ref a) (strsD l) := .lst (SqL.of h) (dp_vals V.str PyData.str (fun i => .str i) l)
def optD : Option Str → PyData
  | some s => .str s
  | none => .none
theorem dp_opt {K : PySem.W.Frag} {H : Hp} (o : Option Str) : Dp K H (strO o) (optD o) := by
  cases o with
  | none => exact .non
  | some s => exact .str s
def optsD (l : List (Option Str)) : PyData := .list (l.map optD)
theorem shp_optsD {l : List (Option Str)} (h : ∀ n, some n ∈ l → PyData.strOk n = true) : Shp 1 (optsD l) := shp_list fun d hd => by
  obtain ⟨o, ho, rfl⟩ := List.mem_map.mp hd
  cases o with
  | none => exact shp_non
  | some s => exact shp_str (h s ho)
theorem dp_opts {K : PySem.W.Frag} {H : Hp} {a : Addr} {l : List (Option Str)} (h : H a = some (.lst (l.map strO))) : Dp K H (.ref a) (optsD l) := .lst (SqL.of h) (dp_vals strO optD dp_opt l)
/-- leaders are cars -/
theorem foll_lead (fr : Str → Int) (ord : List Str) : ∀ r ∈ foll fr ord, ∀ m, r.2.2 = some m → m ∈ ord := by
  have h : ∀ (l : List Str) (pre : List Str) (acc : List (RowT Str)), acc.map (·.1) = pre → (∀ r ∈ acc, ∀ m, r.2.2 = some m → m ∈ pre) → ∀ r ∈ l.foldl (fun acc n => acc ++ [fnext fr acc n]) acc, ∀ m, r.2.2 = some m → m ∈ pre ++ l := by
    intro l
    induction l with
    | nil => intro pre acc _ h; simpa using h
    | cons n q ih =>
      intro pre acc e h
      rw [List.foldl_cons]
      have := ih (pre ++ [n]) (acc ++ [fnext fr acc n]) (by rw [List.map_append, e]; simp [fnext_name]) fun r hr m hm => by
        rcases List.mem_append.mp hr with hr | hr
        · exact List.mem_append_left _ (h r hr m hm)
        · rw [List.mem_singleton.mp hr] at hm
          refine List.mem_append_left _ ?_
          unfold fnext at hm
          split at hm
          · cases hm
          · rename_i a t lo hl
            have hmem := List.mem_of_getLast? hl
            split at hm
            · have hm : some (lo.getD a) = some m := hm
              have hm := Option.some.inj hm
              cases lo with
              | none =>
                rw [← hm, ← e]
                exact List.mem_map.mpr ⟨_, hmem, rfl⟩
              | some b =>
                rw [← hm]
                exact h _ hmem b rfl
            · cases hm
      simpa using this
  intro r hr m hm
  have := h ord [] [] rfl (fun r hr => nomatch hr) r hr m hm
  simpa using this
theorem ldrC_in {secs : List Sec} {cars : List Car} {k : Nat} {n m : Str} (h : ldrC secs cars k n = some m) : m ∈ names cars := by
  have h : ldr (paceOf cars) (pl0 cars) secs k n = some m := h
  unfold ldr at h
  cases hs : secs[k]? with
  | none => rw [hs] at h; cases h
  | some s =>
    rw [hs] at h
    have h : leadP (paceOf cars) (plcC secs cars k) s n = some m := h
    unfold leadP at h
    split at h
    · cases h
    · unfold leadOf look at h
      cases q : (foll (freeP (paceOf cars) (plcC secs cars k) s.2) (plcC secs cars k).ord).find? (fun r => decide (r.1 = n)) with
      | none => rw [q] at h; cases h
      | some r =>
        rw [q] at h
        have h : r.2.2 = some m := h
        exact (plcC_perm secs cars k).mem_iff.mp (foll_lead _ _ r (List.mem_of_find?_eq_some q) m h)
theorem ord_ok {secs : List Sec} {cars : List Car} (CO : CarsOk cars) (k : Nat) : ∀ n ∈ (plcC secs cars k).ord, PyData.strOk n = true := fun n hn => namesOk CO n ((plcC_perm secs cars k).mem_iff.mp hn)
def ordsD (secs : List Sec) (cars : List Car) : PyData := .list ((List.range (secs.length + 1)).map fun k => strsD (plcC secs cars k).ord)
theorem shp_ordsD {secs : List Sec} {cars : List Car} (CO : CarsOk cars) : Shp 2 (ordsD secs cars) := shp_list fun d hd => by
  obtain ⟨k, _, rfl⟩ := List.mem_map.mp hd
  exact shp_strsD (ord_ok CO k)
theorem dp_ords {K : PySem.W.Frag} {H : Hp} {a : Addr} {secs : List Sec} {cars : List Car} (h : OrdsAt H a secs cars) : Dp K H (.ref a) (ordsD secs cars) := by
  obtain ⟨os, h1, h2, h3⟩ := h
  refine .lst (SqL.of h1) (dp_refs (fun k => strsD (plcC secs cars k).ord) (by rw [h2, List.length_range]) fun i b k e1 e2 => ?_)
  have hi : i < secs.length + 1 := by
    have := (List.getElem?_eq_some_iff.mp e1).1
    omega
  rw [List.getElem?_range hi] at e2
  cases e2
  exact dp_strs (h3 i b e1)
end Sl

set_option Elab.async false
set_option linter.all false
set_option maxRecDepth 100000
set_option maxHeartbeats 4000000
namespace Sl
open PySem PySem.Spec L2 OwnR LamX
/-! ### two names of an order -/
def pf (a b n : Str) : Bool := decide (n = a) || decide (n = b)
theorem inV2 (n a b : Str) : inV (.str n) [.str a, .str b] = pf a b n := by
  show (eqV (.str a) (.str n) || (eqV (.str b) (.str n) || false)) = _
  rw [eqV_str, eqV_str, Bool.or_false]
  unfold pf
  rw [show decide (a = n) = decide (n = a) by rw [decide_eq_decide]; exact eq_comm, show decide (b = n) = decide (n = b) by rw [decide_eq_decide]; exact eq_comm]
theorem posL_cons_eq {a : Str} {r : List Str} : posL a (a :: r) = 0 := by
  show (if a = a then _ else _) = _
  rw [if_pos rfl]
theorem posL_cons_ne {a x : Str} {r : List Str} (h : x ≠ a) : posL a (x :: r) = posL a r + 1 := by
  show (if x = a then _ else _) = _
  rw [if_neg h]
theorem pf_none {a b : Str} : ∀ {l : List Str}, a ∉ l → b ∉ l → l.filter (pf a b) = []
  | l, ha, hb => by
    rw [List.filter_eq_nil_iff]
    intro x hx h
    unfold pf at h
    rcases Bool.or_eq_true _ _ ▸ h with h | h
    · exact ha (of_decide_eq_true h ▸ hx)
    · exact hb (of_decide_eq_true h ▸ hx)
theorem pf_one {a b : Str} : ∀ {l : List Str}, l.Nodup → a ∉ l → b ∈ l → l.filter (pf a b) = [b]
  | [], _, _, h => nomatch h
  | x :: r, nd, ha, hb => by
    have nd := List.nodup_cons.mp nd
    have ha' : a ∉ r := fun h => ha (List.mem_cons_of_mem _ h)
    by_cases e : x = b
    · subst e
      rw [List.filter_cons_of_pos (by unfold pf; simp), pf_none ha' nd.1]
    · have hx : x ≠ a := fun z => ha (z ▸ List.mem_cons_self)
      rw [List.filter_cons_of_neg (by unfold pf; simp [e, hx])]
      exact pf_one nd.2 ha' ((List.mem_cons.mp hb).resolve_left fun z => e z.symm)
theorem pf_swap (a b : Str) : pf a b = pf b a := by
  funext n
  unfold pf
  exact Bool.or_comm _ _
theorem pf_two {a b : Str} (ne : a ≠ b) : ∀ {l : List Str}, l.Nodup → a ∈ l → b ∈ l → l.filter (pf a b) = if posL a l < posL b l then [a, b] else [b, a]
  | [], _, h, _ => nomatch h
  | x :: r, nd, ha, hb => by
    have nd := List.nodup_cons.mp nd
    by_cases e : x = a
    · subst e
      rw [List.filter_cons_of_pos (by unfold pf; simp), pf_one nd.2 nd.1 ((List.mem_cons.mp hb).resolve_left fun z => ne z.symm), posL_cons_eq, posL_cons_ne ne, if_pos (by omega)]
    · by_cases e2 : x = b
      · subst e2
        rw [List.filter_cons_of_pos (by unfold pf; simp), pf_swap, pf_one nd.2 nd.1 ((List.mem_cons.mp ha).resolve_left fun z => ne z), posL_cons_eq, posL_cons_ne e, if_neg (by omega)]
      · rw [List.filter_cons_of_neg (by unfold pf; simp [e, e2]), pf_two ne nd.2 ((List.mem_cons.mp ha).resolve_left fun z => e z.symm) ((List.mem_cons.mp hb).resolve_left fun z => e2 z.symm), posL_cons_ne e, posL_cons_ne e2]
        by_cases g : posL a r < posL b r
        · rw [if_pos g, if_pos (by omega)]
        · rw [if_neg g, if_neg (by omega)]
theorem pf_self {a b : Str} (ne : a ≠ b) {l : List Str} (nd : l.Nodup) (ha : a ∈ l) (hb : b ∈ l) : decide (l.filter (pf a b) = [a, b]) = decide (posL a l < posL b l) := by
  rw [pf_two ne nd ha hb, decide_eq_decide]
  by_cases g : posL a l < posL b l
  · rw [if_pos g]; exact ⟨fun _ => g, fun _ => rfl⟩
  · rw [if_neg g]
    exact ⟨fun h => absurd (List.cons.inj h).1.symm ne, fun h => absurd h g⟩
theorem eqvAll_strs : ∀ a b : List Str, PyData.eqvAll (a.map PyData.str) (b.map PyData.str) = decide (a = b)
  | [], [] => rfl
  | [], _ :: _ => rfl
  | _ :: _, [] => rfl
  | x :: a, y :: b => by
    show (PyData.eqv (.str x) (.str y) && PyData.eqvAll (a.map PyData.str) (b.map PyData.str)) = _
    rw [eqvAll_strs a b]
    by_cases h : x = y <;> by_cases g : a = b <;> simp [PyData.eqv, h, g]
theorem eqv_strsD (a b : List Str) : PyData.eqv (strsD a) (strsD b) = decide (a = b) := eqvAll_strs a b
theorem eqvAll_ints : ∀ a b : List Int, PyData.eqvAll (a.map PyData.int) (b.map PyData.int) = decide (a = b)
  | [], [] => rfl
  | [], _ :: _ => rfl
  | _ :: _, [] => rfl
  | x :: a, y :: b => by
    show (PyData.eqv (.int x) (.int y) && PyData.eqvAll (a.map PyData.int) (b.map PyData.int)) = _
    rw [eqvAll_ints a b]
    by_cases h : x = y <;> by_cases g : a = b <;> simp [PyData.eqv, h, g]
theorem eqv_intsD (a b : List Int) : PyData.eqv (intsD a) (intsD b) = decide (a = b) := eqvAll_ints a b
/-! ### cars as data -/
def carD (c : Car) : PyData := .tuple [.str c.name, .int c.start, .int c.pace]
def carsD (cars : List Car) : PyData := .tuple (cars.map carD)
theorem dp_cars {K : PySem.W.Frag} {H : Hp} {a : Addr} {cars : List Car} (h : CarsAt H a cars) : Dp K H (.ref a) (carsD cars) := by
  obtain ⟨ts, h1, h2, h3⟩ := h
  exact .tup (SqT.of h1) (dp_refs carD h2 fun i t c e1 e2 => .tup (SqT.of (h3 i t c e1 e2)) (.cons (.str _) (.cons (.int _) (.cons (.int _) .nil))))
theorem shp_cars {cars : List Car} (h : ∀ c ∈ cars, PyData.strOk c.name = true) : Shp 2 (carsD cars) := shp_tuple fun d hd => by
  obtain ⟨c, hc, rfl⟩ := List.mem_map.mp hd
  refine shp_tuple fun e he => ?_
  rcases List.mem_cons.mp he with rfl | he
  · exact shp_str (h c hc)
  · rcases List.mem_cons.mp he with rfl | he
    · exact shp_int _
    · rw [List.mem_singleton.mp he]
      exact shp_int _
theorem cars_nil (cars : List Car) : PyData.eqv (carsD cars) (.tuple []) = decide (cars = []) := by
  cases cars with
  | nil => rfl
  | cons c r => rfl
/-! ### observations as data -/
def vD : V → PyData
  | .int i => .int i
  | .str s => .str s
  | _ => .none
inductive FlOk : V → Prop
  | i (i : Int) : FlOk (.int i)
  | s {s : Str} (h : PyData.strOk s = true) : FlOk (.str s)
theorem FlOk.shp {v : V} (h : FlOk v) : Shp 0 (vD v) := by
  cases h with
  | i i => exact shp_int i
  | s h => exact shp_str h
theorem FlOk.dp {K : PySem.W.Frag} {H : Hp} {v : V} (h : FlOk v) : Dp K H v (vD v) := by
  cases h with
  | i i => exact .int i
  | s h => exact .str _
def histD (hist : List (List V)) : PyData := .list (hist.map fun r => .tuple (r.map vD))
theorem shp_histD {hist : List (List V)} (h : ∀ r ∈ hist, ∀ v ∈ r, FlOk v) : Shp 2 (histD hist) := shp_list fun d hd => by
  obtain ⟨r, hr, rfl⟩ := List.mem_map.mp hd
  exact shp_tuple fun e he => by
    obtain ⟨v, hv, rfl⟩ := List.mem_map.mp he
    exact (h r hr v hv).shp
theorem dp_flat {K : PySem.W.Frag} {H : Hp} : ∀ {r : List V}, (∀ v ∈ r, FlOk v) → DpAll K H r (r.map vD)
  | [], _ => .nil
  | v :: r, h => .cons (h v List.mem_cons_self).dp (dp_flat fun u hu => h u (List.mem_cons_of_mem _ hu))
theorem dp_hist {K : PySem.W.Frag} {H : Hp} {a : Addr} {hist : List (List V)} (h : ∀ r ∈ hist, ∀ v ∈ r, FlOk v) (t : TupsAt H a hist) : Dp K H (.ref a) (histD hist) := by
  obtain ⟨ts, h1, h2, h3⟩ := t
  exact .lst (SqL.of h1) (dp_refs (fun r => .tuple (r.map vD)) h2 fun i b r e1 e2 => .tup (SqT.of (h3 i b r e1 e2)) (dp_flat (h r (List.mem_of_getElem? e2))))
theorem dp_nats {K : PySem.W.Frag} {H : Hp} {a : Addr} {L : List Nat} (h : H a = some (.lst (L.map fun k => V.int ((k : Nat) : Int)))) : Dp K H (.ref a) (intsD (L.map fun k => ((k : Nat) : Int))) := by
  refine dp_ints ?_
  rw [h, List.map_map]
  rfl
theorem nats_nil {L : List Nat} : PyData.eqv (intsD (L.map fun k => ((k : Nat) : Int))) (.list []) = decide (L = []) := by
  rw [show (PyData.list []) = intsD [] from rfl, eqv_intsD, decide_eq_decide, List.map_eq_nil_iff]
section
variable {P : Program} {w : World} {K : PySem.W.Frag} {mg : Str → Option Value} {base : Heap}
/-! ### what the law reads of its own drives -/
theorem dl_get {H : Hp} {D : Addr} {secs : List Sec} {cars : List Car} {st : Nat} (dl : DrvsAt H D secs cars st) {j : Nat} (hj : j < 60) : ∃ (ts : List Addr) (t tk od ld : Addr), H D = some (.lst (ts.map V.ref)) ∧ ts[j]? = some t ∧ H t = some (.tup [.ref tk, .ref od, .ref ld]) ∧ TksAt H tk secs (zc cars st (j + 1)) ∧ OrdsAt H od secs (zc cars st (j + 1)) := by
  obtain ⟨ts, h1, h2, h3⟩ := dl
  have hj' : j < ts.length := by omega
  obtain ⟨tk, od, ld, x, y, z⟩ := h3 j ts[j] (List.getElem?_eq_getElem hj')
  exact ⟨ts, ts[j], tk, od, ld, h1, List.getElem?_eq_getElem hj', x, y, z⟩
theorem ord_rd {H : Hp} {D : Addr} {secs : List Sec} {cars : List Car} {st : Nat} (dl : DrvsAt H D secs cars st) {e : TE} {σ : L2.St} {j i : Nat} {Q : VK} (hj : j < 60) (hi : i ≤ secs.length) (e8 : σ[8]? = some (some (.ref D))) (e12 : σ[12]? = some (some (.int ((i : Nat) : Int)))) (he : ∀ Q : VK, Q (.int ((j : Nat) : Int)) H → e σ H Q)
    (h : ∀ l, H l = some (.lst ((plcC secs (zc cars st (j + 1)) i).ord.map V.str)) → Q (.ref l) H) : tOp (rIxL K) (tOp (rIxT K) (tOp (rIxL K) (tVar 8) e) (tC (.int 1))) (tVar 12) σ H Q := by
  obtain ⟨ts, t, tk, od, ld, h1, ht, x, y, os, o1, o2, o3⟩ := dl_get dl hj
  have hi' : i < os.length := by omega
  have ho := List.getElem?_eq_getElem hi'
  exact ⟨_, e8, he _ ⟨D, _, _, .ref t, rfl, rfl, SqL.of h1, atI_nat (map_atZ V.ref ht), t, _, ((1 : Nat) : Int), .ref od, rfl, rfl, SqT.of x, atI_nat rfl, _, e12, od, _, _, .ref os[i], rfl, rfl, SqL.of o1, atI_nat (map_atZ V.ref ho), h _ (o3 i _ ho)⟩⟩
theorem tk_rd {H : Hp} {D : Addr} {secs : List Sec} {cars : List Car} {st : Nat} (dl : DrvsAt H D secs cars st) {e : TE} {σ : L2.St} {j i jp : Nat} {Q : VK} (hj : j < 60) (hi : i ≤ secs.length) (e8 : σ[8]? = some (some (.ref D))) (ep : σ[jp]? = some (some (.int ((i : Nat) : Int)))) (he : ∀ Q : VK, Q (.int ((j : Nat) : Int)) H → e σ H Q)
    (h : Q (.int (tz secs cars st i (j + 1))) H) : tOp (rIxL K) (tDGet (tOp (rIxT K) (tOp (rIxL K) (tVar 8) e) (tC (.int 0))) (tC (.str "z"))) (tVar jp) σ H Q := by
  obtain ⟨ts, t, tk, od, ld, h1, ht, x, ⟨kt, k1, k2⟩, _⟩ := dl_get dl hj
  obtain ⟨d, d1, d2⟩ := k2 ⟨"z", (st : Int), ((j + 1 : Nat) : Int)⟩ (by unfold zc; exact List.mem_append_right _ List.mem_cons_self)
  have g : DGet H tk (.str "z") (some (.ref d)) := by
    have := DGet.k (k := (Sum.inr ("z" : Str) : Key)) k1
    rw [show valV kt (Sum.inr ("z" : Str) : Key) = some (.ref d) from d1] at this
    exact this
  exact ⟨_, e8, he _ ⟨D, _, _, .ref t, rfl, rfl, SqL.of h1, atI_nat (map_atZ V.ref ht), t, _, ((0 : Nat) : Int), .ref tk, rfl, rfl, SqT.of x, atI_nat rfl, tk, _, rfl, g, _, ep, d, _, _, _, rfl, rfl, SqL.of d2, atI_nat (map_atZ V.int (tks_at hi)), h⟩⟩
/-! ### readings, step by step -/
theorem gname_to {i : Nat} {v : V} {σ : L2.St} {H : Hp} {Q : L2.St → Hp → Prop} (h : Q (σ.set i (some v)) H) : gName i v σ H Q := h
theorem seq_cut {t u : TS} {D : Ends} {σ : L2.St} {H : Hp} (C : L2.St → Hp → Prop) (h1 : ∀ nx : L2.St → Hp → Prop, (∀ σ' H', C σ' H' → nx σ' H') → t { D with nx := nx } σ H) (h2 : ∀ σ' H', C σ' H' → u D σ' H') : tSeq t u D σ H := h1 _ h2
theorem seq_asg {te : TE} {g : TG} {u : TS} {D : Ends} {σ : L2.St} {H : Hp} (h : te σ H fun x H1 => g x σ H1 (u D)) : tSeq (tAsg te g) u D σ H := h
theorem op_it {r : R2} {ta tb : TE} {σ : L2.St} {H : Hp} {Q : VK} (h : ta σ H fun x H1 => tb σ H1 fun y H2 => r x y H2 Q) : tOp r ta tb σ H Q := h
theorem test_op {r : R2} {ta tb : TE} {σ : L2.St} {H : Hp} {R : Bool → Hp → Prop} (h : ta σ H fun x H1 => tb σ H1 fun y H2 => r x y H2 fun z H3 => ∃ k, z = .bl k ∧ R k H3) : tTest (tOp r ta tb) σ H R := h
/-- a comprehension behind the value that it walks -/
def tLcB (J : It) (g : TG) (tt : TT) (te : TE) (vs : List Nat) (σ : L2.St) (H1 : Hp) (Q : VK) : Prop := ∀ D, H1 D = none → ∃ W : Nat → Nat → Hp → Prop, (∃ m, W 0 m (upd H1 D (.lst []))) ∧ ∀ i m H, W i m H →
  (J.stop i H ∧ Q (.ref D) H) ∨ (J.go i H ∧ ∃ Nx : Hp → Prop, (∀ H', Nx H' → ∃ m', m' < m ∧ W (i + 1) m' H') ∧ ∀ x H', J.yld i H x H' → g x (wipe σ vs) H' fun σ2 H2 => wipe σ2 vs = wipe σ vs ∧ tt σ2 H2 fun b H3 =>
    if b = true then te σ2 H3 fun y H4 => ∃ acc, H4 D = some (.lst acc) ∧ acc.length < sizeLine ∧ Nx (upd H4 D (.lst (acc ++ [y]))) else Nx H3)
theorem lc_list {tl : TE} {g : TG} {tt : TT} {te : TE} {vs : List Nat} {σ : L2.St} {H : Hp} {Q : VK} (h : tl σ H fun x H1 => ∃ a, x = .ref a ∧ (∃ xs, SqL K H1 a xs) ∧ tLcB (Itl K a) g tt te vs σ H1 Q) : tLc (iList K tl) g tt te vs σ H Q := h
/-- a comprehension that keeps those of a list that a test lets through -/
theorem lf_it {α : Type} (f : α → V) {i : Nat} {tt : TT} {σ : L2.St} {H : Hp} {a : Addr} {xs : List α} {Q : VK} (p : α → Bool) (small : xs.length ≤ 1000) (ha : H a = some (.lst (xs.map f)))
    (hw : ∀ x, wipe ((wipe σ [i]).set i (some x)) [i] = wipe σ [i]) (hv : ∀ x, ((wipe σ [i]).set i (some x))[i]? = some (some x))
    (ht : ∀ (x : α) (H1 : Hp) (R : Bool → Hp → Prop), x ∈ xs → Same H H1 → (∀ H2, Same H1 H2 → R (p x) H2) → tt ((wipe σ [i]).set i (some (f x))) H1 R)
    (k : ∀ D H', Same H H' → H D = none → H' D = some (.lst ((xs.filter p).map f)) → Q (.ref D) H') : tLcB (Itl K a) (gName i) tt (tVar i) [i] σ H Q := by
  intro D hD
  refine lc_it walk_list (fun j H1 => Same H H1 ∧ H1 D = some (.lst (((xs.take j).filter p).map f))) ⟨sameNew hD _, upd_same⟩ (fun j H1 _ ⟨k1, _⟩ => SqL.of (k1 _ _ ha)) ?_ ?_
  · rintro j y Hz H1 hj ⟨s1, hD1⟩ ⟨e, hy⟩
    subst e
    rw [List.length_map] at hj
    obtain ⟨x, hx⟩ : ∃ x, xs[j]? = some x := ⟨_, List.getElem?_eq_getElem hj⟩
    have hy : y = f x := by
      have : (xs.map f)[j]? = some (f x) := by rw [List.getElem?_map, hx]; rfl
      exact Option.some.inj (hy.symm.trans this)
    subst hy
    refine ⟨hw _, ht x _ _ (List.mem_of_getElem? hx) s1 fun H2 s2 => ?_⟩
    have s12 := s1.trans s2
    have hD2 := s2 _ _ hD1
    have en : (xs.take (j + 1)).filter p = (xs.take j).filter p ++ if p x = true then [x] else [] := by
      rw [tk1 hx, List.filter_append]
      by_cases g : p x = true <;> simp [g]
    by_cases g : p x = true
    · rw [g]
      refine iteT ⟨_, hv _, _, hD2, ?_, fun b o e2 => by rw [upd_ne (ne_of_none e2 hD)]; exact s12 _ _ e2, ?_⟩
      · rw [List.length_map]
        exact Nat.lt_of_le_of_lt (Nat.le_trans (List.length_filter_le _ _) (by rw [List.length_take]; omega)) (small1000 (show 1000 ≤ 1000 by decide))
      · rw [upd_same, en, if_pos g, List.map_append]
        rfl
    · rw [Bool.eq_false_iff.mpr g]
      refine iteF ⟨s12, ?_⟩
      rw [hD2, en, if_neg g, List.append_nil]
  rintro H1 ⟨s1, hD1⟩
  rw [List.length_map, List.take_length] at hD1
  exact k D H1 s1 hD hD1
/-- a suite in the middle: what it leaves is enough for the rest -/
theorem via {t : TS} {D : Ends} {σ : L2.St} {H : Hp} (C : L2.St → Hp → Prop) (h1 : ∀ nx : L2.St → Hp → Prop, (∀ σ' H', C σ' H' → nx σ' H') → t { D with nx := nx } σ H) (h2 : ∀ σ' H', C σ' H' → D.nx σ' H') : t D σ H := h1 D.nx h2
/-- a test in the middle: what it leaves is enough for either way -/
theorem viaT {c : TT} {t u : TS} {D : Ends} {σ : L2.St} {H : Hp} (G : Bool → Hp → Prop) (h1 : ∀ Q : Bool → Hp → Prop, (∀ b H', G b H' → Q b H') → c σ H Q) (h2 : ∀ b H', G b H' → if b = true then t D σ H' else u D σ H') : tIfS c t u D σ H := h1 _ h2
/-- what a turn leaves: what the observation says, what was told of it -/
def Turned (K : PySem.W.Frag) (CH C : Addr) (T : List (Addr × Str)) (H : Hp) (r sc l a D p dx : Addr) (ns : List Int) (secs : List Sec) (cars : List Car) (st : Nat) (L : List Nat) (hist : List (List V)) (lf se gd on : Addr) (wv : V) : Prop :=
  LawZ K T H r sc l a D ns secs cars st ∧ H lf = some (.lst (L.map fun k => V.int ((k : Nat) : Int))) ∧ TupsAt H se hist ∧ ∃ (L' : List Nat) (ob : List V), H gd = some (.lst (L'.map fun k => V.int ((k : Nat) : Int))) ∧ H on = some (.tup ob) ∧ (∀ v ∈ ob, FlOk v) ∧ L'.length ≤ 60 ∧
    ((L' = [] ∧ ∃ wp cl dd hl : Addr, wv = .ref wp ∧ H wp = some (.tup [.str "contradiction"]) ∧ HPat CH C H p dx secs cars st L hist cl dd hl) ∨
     (L' ≠ [] ∧ wv = .non ∧ ∃ cl dd hl : Addr, HPat CH C H p dx secs cars st L' (hist ++ [ob]) cl dd hl))
theorem strOk_z : PyData.strOk ("z" : Str) = true := by decide +kernel
theorem strOk_see : PyData.strOk ("see" : Str) = true := by decide +kernel
theorem strOk_seeO : PyData.strOk ("see_order" : Str) = true := by decide +kernel
theorem strOk_con : PyData.strOk ("contradiction" : Str) = true := by decide +kernel
theorem tups_app {H : Hp} {se on : Addr} {hist : List (List V)} {ob : List V} (h : TupsAt H se hist) (ho : H on = some (.tup ob)) : ∃ xs : List V, H se = some (.lst xs) ∧ xs.length = hist.length ∧ ∀ (H' : Hp) (p : Addr), Same H H' → H' p = some (.lst (xs ++ [.ref on])) → TupsAt H' p (hist ++ [ob]) := by
  obtain ⟨ts, h1, h2, h3⟩ := h
  refine ⟨_, h1, by rw [List.length_map, h2], fun H' p s hp => ⟨ts ++ [on], by rw [hp, List.map_append]; rfl, by rw [List.length_append, List.length_append, h2]; rfl, fun i t v e1 e2 => ?_⟩⟩
  rcases Nat.lt_or_ge i hist.length with lt | ge
  · rw [List.getElem?_append_left (by omega)] at e1
    rw [List.getElem?_append_left lt] at e2
    exact s _ _ (h3 i t v e1 e2)
  · rw [List.getElem?_append_right (by omega)] at e1
    rw [List.getElem?_append_right ge] at e2
    have i0 : i - hist.length = 0 := by
      have := (List.getElem?_eq_some_iff.mp e2).1
      simp at this
      omega
    rw [h2, i0] at e1
    rw [i0] at e2
    cases e1
    cases e2
    exact s _ _ ho
end
end Sl

set_option Elab.async false
set_option linter.all false
set_option maxRecDepth 100000
set_option maxHeartbeats 4000000
namespace Sl
open PySem PySem.Spec L2 OwnR LamX
/-! ### lists of lists of ticks -/
def ListsAt (H : Hp) (a : Addr) (ls : List (List Int)) : Prop := ∃ as : List Addr, H a = some (.lst (as.map V.ref)) ∧ as.length = ls.length ∧ ∀ (i : Nat) (b : Addr) (l : List Int), as[i]? = some b → ls[i]? = some l → H b = some (.lst (l.map V.int))
theorem ListsAt.same {H H' : Hp} {a : Addr} {ls : List (List Int)} (h : ListsAt H a ls) (e : Same H H') : ListsAt H' a ls := by
  obtain ⟨as, h1, h2, h3⟩ := h
  exact ⟨as, e _ _ h1, h2, fun i b l e1 e2 => e _ _ (h3 i b l e1 e2)⟩
def listsD (ls : List (List Int)) : PyData := .list (ls.map intsD)
theorem shp_listsD (ls : List (List Int)) : Shp 2 (listsD ls) := shp_list fun d hd => by
  obtain ⟨l, _, rfl⟩ := List.mem_map.mp hd
  exact shp_intsD l
theorem dp_lists {K : PySem.W.Frag} {H : Hp} {a : Addr} {ls : List (List Int)} (h : ListsAt H a ls) : Dp K H (.ref a) (listsD ls) := by
  obtain ⟨as, h1, h2, h3⟩ := h
  exact .lst (SqL.of h1) (dp_refs intsD h2 fun i b l e1 e2 => dp_ints (h3 i b l e1 e2))
/-- a list of lists grows by one that is not it -/
theorem ListsAt.snoc {H : Hp} {D b : Addr} {ls : List (List Int)} {l : List Int} (h : ListsAt H D ls) (hb : H b = some (.lst (l.map V.int))) (n : b ≠ D) (hs : ∀ (i : Nat) (c : Addr) (m : List Int) (as : List Addr), H D = some (.lst (as.map V.ref)) → as[i]? = some c → c ≠ D) : ∃ xs : List V, H D = some (.lst xs) ∧ xs.length = ls.length ∧ ListsAt (upd H D (.lst (xs ++ [.ref b]))) D (ls ++ [l]) := by
  obtain ⟨as, h1, h2, h3⟩ := h
  refine ⟨_, h1, by rw [List.length_map, h2], as ++ [b], by rw [upd_same, List.map_append]; rfl, by rw [List.length_append, List.length_append, h2]; rfl, fun i t v e1 e2 => ?_⟩
  rcases Nat.lt_or_ge i ls.length with lt | ge
  · rw [List.getElem?_append_left (by omega)] at e1
    rw [List.getElem?_append_left lt] at e2
    rw [upd_ne (hs i t v as h1 e1)]
    exact h3 i t v e1 e2
  · rw [List.getElem?_append_right (by omega)] at e1
    rw [List.getElem?_append_right ge] at e2
    have i0 : i - ls.length = 0 := by
      have := (List.getElem?_eq_some_iff.mp e2).1
      simp at this
      omega
    rw [h2, i0] at e1
    rw [i0] at e2
    cases e1
    cases e2
    rw [upd_ne n]
    exact hb
/-- the ticks of all places -/
def tksP (secs : List Sec) (cars : List Car) (st : Nat) (L : List Nat) (n : Nat) : List (List Int) := (List.range n).map fun i => tkA secs cars st i L
theorem tksP_succ (secs : List Sec) (cars : List Car) (st : Nat) (L : List Nat) (n : Nat) : tksP secs cars st L (n + 1) = tksP secs cars st L n ++ [tkA secs cars st n L] := by
  unfold tksP
  rw [List.range_succ, List.map_append]
  rfl
theorem tksP_len (secs : List Sec) (cars : List Car) (st : Nat) (L : List Nat) (n : Nat) : (tksP secs cars st L n).length = n := by
  unfold tksP
  rw [List.length_map, List.length_range]
section
variable {P : Program} {w : World} {K : PySem.W.Frag} {mg : Str → Option Value} {base : Heap}
/-- a list that is made, of lists that were not there when it was begun -/
def Lm (H0 : Hp) (D : Addr) (H : Hp) (ls : List (List Int)) : Prop := Same H0 H ∧ ∃ as : List Addr, H D = some (.lst (as.map V.ref)) ∧ as.length = ls.length ∧ ∀ (i : Nat) (b : Addr) (l : List Int), as[i]? = some b → ls[i]? = some l → b ≠ D ∧ H b = some (.lst (l.map V.int))
theorem Lm.nil {H0 : Hp} {D : Addr} (h : H0 D = none) : Lm H0 D (upd H0 D (.lst [])) [] := ⟨sameNew h _, [], upd_same, rfl, fun _ _ _ z => nomatch z⟩
theorem Lm.lists {H0 H : Hp} {D : Addr} {ls : List (List Int)} (h : Lm H0 D H ls) : ListsAt H D ls := let ⟨_, as, a, b, c⟩ := h; ⟨as, a, b, fun i t l e1 e2 => (c i t l e1 e2).2⟩
theorem Lm.snoc {H0 H H1 : Hp} {D b : Addr} {ls : List (List Int)} {l : List Int} (h : Lm H0 D H ls) (hD : H0 D = none) (s : Same H H1) (hb : H1 b = some (.lst (l.map V.int))) (n : b ≠ D) : ∃ xs : List V, H1 D = some (.lst xs) ∧ xs.length = ls.length ∧ Lm H0 D (upd H1 D (.lst (xs ++ [.ref b]))) (ls ++ [l]) := by
  obtain ⟨s0, as, h1, h2, h3⟩ := h
  refine ⟨_, s _ _ h1, by rw [List.length_map, h2], fun c o e => by rw [upd_ne (ne_of_none e hD)]; exact s _ _ (s0 _ _ e), as ++ [b], by rw [upd_same, List.map_append]; rfl, by rw [List.length_append, List.length_append, h2]; rfl, fun i t v e1 e2 => ?_⟩
  rcases Nat.lt_or_ge i ls.length with lt | ge
  · rw [List.getElem?_append_left (by omega)] at e1
    rw [List.getElem?_append_left lt] at e2
    obtain ⟨z1, z2⟩ := h3 i t v e1 e2
    rw [upd_ne z1]
    exact ⟨z1, s _ _ z2⟩
  · rw [List.getElem?_append_right (by omega)] at e1
    rw [List.getElem?_append_right ge] at e2
    have i0 : i - ls.length = 0 := by
      have := (List.getElem?_eq_some_iff.mp e2).1
      simp at this
      omega
    rw [h2, i0] at e1
    rw [i0] at e2
    cases e1
    cases e2
    rw [upd_ne n]
    exact ⟨n, hb⟩
theorem Lm.ne {H0 H : Hp} {D q : Addr} {ls : List (List Int)} (h : Lm H0 D H ls) (n : H q = none) : q ≠ D := fun e => by
  obtain ⟨_, as, a, _⟩ := h
  rw [e, a] at n
  cases n
/-- the possible ticks at a place, as the law finds them -/
theorem ticks_rd {H : Hp} {D lf : Addr} {secs : List Sec} {cars : List Car} {st : Nat} {L : List Nat} {σ : L2.St} {i : Nat} {Q : VK} (dl : DrvsAt H D secs cars st) (hlf : H lf = some (.lst (L.map fun k => V.int ((k : Nat) : Int)))) (pc : ∀ k ∈ L, 1 ≤ k ∧ k ≤ 60) (few : L.length ≤ 60) (hi : i ≤ secs.length)
    (e6 : σ[6]? = some (some (.ref lf))) (hw : ∀ x, wipe ((wipe σ [23]).set 23 (some x)) [23] = wipe σ [23]) (hv : ∀ x, ((wipe σ [23]).set 23 (some x))[23]? = some (some x)) (h8 : ∀ x, ((wipe σ [23]).set 23 (some x))[8]? = some (some (.ref D))) (h25 : ∀ x, ((wipe σ [23]).set 23 (some x))[25]? = some (some (.int ((i : Nat) : Int))))
    (k : ∀ H' q, Same H H' → H q = none → H' q = some (.lst ((tkA secs cars st i L).map V.int)) → Q (.ref q) H') :
    tCB (rSortedSet w) (tCons (tCB (rSetL K w) (tCons (tLc (iList K (tVar 6)) (gName 23) tYes (tOp (rIxL K) (tDGet (tOp (rIxT K) (tOp (rIxL K) (tVar 8) (tOp (rI0 fun i j => V.int (i - j)) (tVar 23) (tC (.int 1)))) (tC (.int 0))) (tC (.str "z"))) (tVar 25)) [23]) tNil)) tNil) σ H Q := by
  refine ⟨_, e6, lf, rfl, ⟨_, SqL.of hlf⟩, fun B hB => ?_⟩
  refine lc_it walk_list (fun j H1 => Same H H1 ∧ H1 B = some (.lst (((L.take j).map fun k => tz secs cars st i k).map V.int))) ⟨sameNew hB _, upd_same⟩ (fun j H1 _ ⟨k1, _⟩ => SqL.of (k1 _ _ hlf)) ?_ ?_
  · rintro j y Hz H1 hj ⟨s1, hB1⟩ ⟨e, hy⟩
    subst e
    rw [List.length_map] at hj
    obtain ⟨q, hq⟩ : ∃ q, L[j]? = some q := ⟨_, List.getElem?_eq_getElem hj⟩
    have hy : y = V.int ((q : Nat) : Int) := by
      have : (L.map fun k => V.int ((k : Nat) : Int))[j]? = some (V.int ((q : Nat) : Int)) := by rw [List.getElem?_map, hq]; rfl
      exact Option.some.inj (hy.symm.trans this)
    subst hy
    obtain ⟨q1, q2⟩ := pc q (List.mem_of_getElem? hq)
    obtain ⟨m, rfl⟩ : ∃ m, q = m + 1 := ⟨q - 1, by omega⟩
    refine ⟨hw _, yes_of (tk_rd (j := m) (dl.nk (Kg.same s1).nk) (by omega) hi (h8 _) (h25 _) (fun R hR => ⟨_, hv _, _, _, rfl, rfl, ?_⟩) ⟨_, hB1, ?_, fun b o e2 => by rw [upd_ne (ne_of_none e2 hB)]; exact s1 _ _ e2, ?_⟩)⟩
    · show R (V.int (((m + 1 : Nat) : Int) - 1)) _
      rw [show ((m + 1 : Nat) : Int) - 1 = ((m : Nat) : Int) by omega]
      exact hR
    · rw [List.length_map, List.length_map, List.length_take]
      exact small1000 (by omega)
    · rw [upd_same, tk1 hq, List.map_append, List.map_append]
      rfl
  rintro H1 ⟨s1, hB1⟩
  rw [List.length_map, List.take_length] at hB1
  refine ⟨B, _, rfl, SqL.of hB1, by rw [List.length_map]; omega, fun S n hS hn => ?_⟩
  rw [List.length_map] at hn
  refine ⟨S, _, n, rfl, upd_same, by omega, fun ns q pw hm hl2 hq => ?_⟩
  have e : ns = tkA secs cars st i L := asc_of pw fun x => by
    rw [hm]
    exact decide_eq_true_iff
  subst e
  have s2 := sameNew hS (SetO w S (fun j => decide (j ∈ L.map fun k => tz secs cars st i k)) n)
  have hq0 : H q = none := by
    cases h : H q with
    | none => rfl
    | some o => have := s2 _ _ (s1 _ _ h); rw [this] at hq; cases hq
  exact k _ q (s1.trans (s2.trans (sameNew hq _))) hq0 upd_same
end
end Sl

set_option Elab.async false
set_option linter.all false
set_option maxRecDepth 100000
set_option maxHeartbeats 1000000
/-! How late a car can be (rows of k61/J1 and k64/N1). -/
namespace Sl
open PySem PySem.Spec L2 OwnR LamX
section
variable {N : Type} [DecidableEq N]
theorem foll_append (f : N → Int) (a : List N) : ∀ b : List N, ∃ r, foll f (a ++ b) = foll f a ++ r := by
  intro b
  induction b generalizing a with
  | nil => exact ⟨[], by simp⟩
  | cons n r ih =>
    obtain ⟨r', h⟩ := ih (a ++ [n])
    rw [List.append_assoc, List.singleton_append] at h
    exact ⟨fnext f (foll f a) n :: r', by rw [h, foll_snoc, List.append_assoc, List.singleton_append]⟩
theorem foll_at (f : N → Int) {l : List N} {i : Nat} {x : N} (h : l[i]? = some x) : (foll f l)[i]? = some (fnext f (foll f (l.take i)) x) := by
  have hi : i < l.length := (List.getElem?_eq_some_iff.mp h).1
  have e : l = (l.take i ++ [x]) ++ l.drop (i + 1) := by
    rw [← tk1 h, List.take_append_drop]
  obtain ⟨r, hr⟩ := foll_append f (l.take i ++ [x]) (l.drop (i + 1))
  rw [← e, foll_snoc] at hr
  have hl : (foll f (l.take i)).length = i := by rw [foll_length, List.length_take]; omega
  rw [hr, List.getElem?_append_left (by rw [List.length_append, hl]; simp), List.getElem?_append_right (by omega), hl, Nat.sub_self]
  rfl
theorem foll_max (f : N → Int) (l : List N) : ∀ (i : Nat) (r : RowT N), (foll f l)[i]? = some r → (∀ (j : Nat) (y : N), j ≤ i → l[j]? = some y → f y ≤ r.2.1) ∧ ∃ (j : Nat) (y : N), j ≤ i ∧ l[j]? = some y ∧ f y = r.2.1 := by
  intro i
  induction i with
  | zero =>
    intro r hr
    have hlen := (List.getElem?_eq_some_iff.mp hr).1
    rw [foll_length] at hlen
    obtain ⟨x, hx⟩ : ∃ x, l[0]? = some x := ⟨_, List.getElem?_eq_getElem hlen⟩
    rw [foll_at f hx] at hr
    have e : r = (x, f x, none) := (Option.some.inj hr).symm
    subst e
    refine ⟨fun j y hj hy => ?_, 0, x, Nat.le_refl _, hx, rfl⟩
    have : j = 0 := by omega
    subst this
    rw [hx] at hy
    rw [← Option.some.inj hy]
    exact Int.le_refl _
  | succ i ih =>
    intro r hr
    have hlen := (List.getElem?_eq_some_iff.mp hr).1
    rw [foll_length] at hlen
    obtain ⟨x, hx⟩ : ∃ x, l[i + 1]? = some x := ⟨_, List.getElem?_eq_getElem hlen⟩
    obtain ⟨x0, hx0⟩ : ∃ x, l[i]? = some x := ⟨_, List.getElem?_eq_getElem (by omega)⟩
    have h0 := foll_at f hx0
    obtain ⟨h1, j0, y0, hj0, hy0, e0⟩ := ih _ h0
    rw [foll_at f hx] at hr
    have hlast : (foll f (l.take (i + 1))).getLast? = some (fnext f (foll f (l.take i)) x0) := by
      rw [tk1 hx0, foll_snoc, List.getLast?_append]
      simp
    generalize fnext f (foll f (l.take i)) x0 = r0 at *
    obtain ⟨a, t, q⟩ := r0
    have er : r = if f x < t then (x, t, some (q.getD a)) else (x, f x, none) := by
      rw [← Option.some.inj hr]
      unfold fnext
      rw [hlast]
    have et : r.2.1 = max t (f x) := by
      rw [er]
      split
      · show t = _
        omega
      · show f x = _
        omega
    rw [et]
    refine ⟨fun j y hj hy => ?_, ?_⟩
    · rcases Nat.lt_or_ge j (i + 1) with h | h
      · have := h1 j y (by omega) hy
        have e : (a, t, q).2.1 = t := rfl
        rw [e] at this
        omega
      · have : j = i + 1 := by omega
        subst this
        rw [hx] at hy
        rw [← Option.some.inj hy]
        omega
    · rcases Int.lt_or_le (f x) t with h | h
      · refine ⟨j0, y0, by omega, hy0, ?_⟩
        rw [e0]
        show t = _
        omega
      · exact ⟨i + 1, x, Nat.le_refl _, hx, by omega⟩
theorem tick_at (f : N → Int) {l : List N} (nd : l.Nodup) {i : Nat} {x : N} (h : l[i]? = some x) : ∃ r, (foll f l)[i]? = some r ∧ tickOf (foll f l) x = r.2.1 := by
  refine ⟨_, foll_at f h, ?_⟩
  have e := look_get (by rw [foll_names]; exact nd) (foll_at f h)
  rw [fnext_name] at e
  unfold tickOf
  rw [e]
  rfl
theorem tick_max (f : N → Int) {l : List N} (nd : l.Nodup) {i : Nat} {x : N} (h : l[i]? = some x) : (∀ (j : Nat) (y : N), j ≤ i → l[j]? = some y → f y ≤ tickOf (foll f l) x) ∧ ∃ (j : Nat) (y : N), j ≤ i ∧ l[j]? = some y ∧ f y = tickOf (foll f l) x := by
  obtain ⟨r, h1, h2⟩ := tick_at f nd h
  rw [h2]
  exact foll_max f l i r h1
/-- ticks grow, and not too far -/
theorem tick_up {pace : N → Int} {P : Pl N} (nd : P.ord.Nodup) {n : N} (hn : n ∈ P.ord) (hp : 0 ≤ pace n) (s : Bool × Nat) : P.tk n ≤ (stepP pace P s).tk n := by
  have hf : P.tk n ≤ freeP pace P s.2 n := by
    unfold freeP
    have := Int.mul_nonneg hp (Int.natCast_nonneg s.2)
    omega
  unfold stepP
  split
  · exact hf
  · obtain ⟨i, hi⟩ := List.mem_iff_getElem?.mp hn
    have := (tick_max (freeP pace P s.2) nd hi).1 i n (Nat.le_refl _) hi
    show P.tk n ≤ tickOf (foll (freeP pace P s.2) P.ord) n
    omega
theorem tick_cap {pace : N → Int} {P : Pl N} (nd : P.ord.Nodup) {B : Int} (h : ∀ x ∈ P.ord, P.tk x ≤ B ∧ pace x ≤ 60) (s : Bool × Nat) : ∀ x ∈ (stepP pace P s).ord, (stepP pace P s).tk x ≤ B + 60 * (s.2 : Int) ∧ pace x ≤ 60 := by
  intro x hx
  have hx := (stepP_perm pace P s).mem_iff.mp hx
  have hf : ∀ y ∈ P.ord, freeP pace P s.2 y ≤ B + 60 * (s.2 : Int) := fun y hy => by
    obtain ⟨h1, h2⟩ := h y hy
    have := Int.mul_le_mul_of_nonneg_right h2 (Int.natCast_nonneg s.2)
    unfold freeP
    omega
  refine ⟨?_, (h x hx).2⟩
  unfold stepP
  split
  · exact hf x hx
  · obtain ⟨i, hi⟩ := List.mem_iff_getElem?.mp hx
    obtain ⟨_, j, y, _, hy, ey⟩ := tick_max (freeP pace P s.2) nd hi
    have := hf y (List.mem_of_getElem? hy)
    show tickOf (foll (freeP pace P s.2) P.ord) x ≤ _
    omega
theorem plc_up {pace : N → Int} {P : Pl N} (nd : P.ord.Nodup) {n : N} (hn : n ∈ P.ord) (hp : 0 ≤ pace n) (secs : List (Bool × Nat)) : ∀ k, k ≤ secs.length → P.tk n ≤ (plc pace P secs k).tk n
  | 0, _ => Int.le_refl _
  | k + 1, h => by
    obtain ⟨s, hs⟩ : ∃ s, secs[k]? = some s := ⟨_, List.getElem?_eq_getElem (by omega)⟩
    rw [plc_succ pace P secs hs]
    have pm := plc_perm pace P secs k
    exact Int.le_trans (plc_up nd hn hp secs k (by omega)) (tick_up (pm.nodup_iff.mpr nd) (pm.mem_iff.mpr hn) hp s)
theorem plc_cap {pace : N → Int} {P : Pl N} (nd : P.ord.Nodup) {B : Int} (h : ∀ x ∈ P.ord, P.tk x ≤ B ∧ pace x ≤ 60) {secs : List (Bool × Nat)} (h9 : ∀ s ∈ secs, s.2 ≤ 99) : ∀ k, k ≤ secs.length → ∀ x ∈ (plc pace P secs k).ord, (plc pace P secs k).tk x ≤ B + 5940 * (k : Int) ∧ pace x ≤ 60
  | 0, _ => fun x hx => by
    have := h x hx
    exact ⟨by rw [plc_zero]; omega, this.2⟩
  | k + 1, hk => fun x hx => by
    obtain ⟨s, hs⟩ : ∃ s, secs[k]? = some s := ⟨_, List.getElem?_eq_getElem (by omega)⟩
    rw [plc_succ pace P secs hs] at hx ⊢
    have pm := plc_perm pace P secs k
    have := tick_cap (pm.nodup_iff.mpr nd) (plc_cap nd h h9 k (by omega)) s x hx
    have := h9 s (List.mem_of_getElem? hs)
    omega
end
theorem tick_most {secs : List Sec} {cars : List Car} (CO : CarsOk cars) (S : SecsOk secs) {n : Str} (hn : n ∈ names cars) {k : Nat} (hk : k ≤ secs.length) : (plcC secs cars k).tk n ≤ 1100000 := by
  have h := plc_cap (pace := paceOf cars) (P := pl0 cars) (B := 1000000) (secs := secs) ((pl0_perm cars).nodup_iff.mpr CO.nd) (fun x hx => by
    obtain ⟨c, hc, rfl⟩ := List.mem_map.mp ((pl0_perm cars).mem_iff.mp hx)
    refine ⟨?_, by rw [paceOf_car CO.nd hc]; exact (CO.all c hc).p1⟩
    show startOf cars c.name ≤ _
    rw [startOf_car CO.nd hc]
    exact (CO.all c hc).s1) (fun s hs => (S.len s hs).2) k hk n ((plcC_perm secs cars k).mem_iff.mpr hn)
  have := S.few
  show (plc (paceOf cars) (pl0 cars) secs k).tk n ≤ _
  omega
theorem tick_zero {secs : List Sec} {cars : List Car} (CO : CarsOk cars) {n : Str} (hn : n ∈ names cars) {k : Nat} (hk : k ≤ secs.length) : 0 ≤ (plcC secs cars k).tk n := by
  obtain ⟨c, hc, rfl⟩ := List.mem_map.mp hn
  have hp : 0 ≤ paceOf cars c.name := by
    rw [paceOf_car CO.nd hc]
    have := (CO.all c hc).p0
    omega
  have := plc_up (pace := paceOf cars) (P := pl0 cars) ((pl0_perm cars).nodup_iff.mpr CO.nd) ((pl0_perm cars).mem_iff.mpr hn) hp secs k hk
  have e : (pl0 cars).tk c.name = c.start := startOf_car CO.nd hc
  have := (CO.all c hc).s0
  show 0 ≤ (plc (paceOf cars) (pl0 cars) secs k).tk c.name
  omega
end Sl


set_option Elab.async false
set_option linter.all false
set_option maxRecDepth 100000
set_option maxHeartbeats 4000000
namespace Sl
open PySem PySem.Spec L2 OwnR LamX
def qLaw : Str := ("law" : Str) ++ (".<locals>." : Str) ++ ("<lambda>" : Str)
def nLaw : List Str := ["_law_script", "_law_row", "_law_road", "_law_sections_here", "_law_cars_here", "_law_start", "_law_left", "_law_seen", "_law_drives", "_law_hidden", "_law_true", "_law_turn", "_law_place", "_law_other", "_law_pair", "_law_good", "_law_word", "_law_one", "_law_tick", "_law_ticks", "_law_sizes", "_law_pace", "_law_name", "_law_p", "_law_n", "_law_k"]
theorem scLaw : FnScope nLaw ["_law_script"] (defScope sLaw) := ⟨rfl, rfl, rfl, by decide +kernel, rfl, by decide +kernel, by decide +kernel⟩
theorem boot_set' : bootBuiltins "set" = some (.type "set") := by decide +kernel
theorem boot_max' : bootBuiltins "max" = some (.builtin "max") := by decide +kernel
def scGood : Scope := { kind := .function, names := [(".0", .local), ("_law_p", .local), ("_law_drives", .cell), ("_law_pair", .cell), ("_law_place", .cell)], isGenerator := false, isCoroutine := false }
def scTicks : Scope := { kind := .function, names := [(".0", .local), ("_law_k", .cell), ("sorted", .globalImplicit), ("set", .globalImplicit), ("_law_drives", .cell), ("_law_left", .cell)], isGenerator := false, isCoroutine := false }
/-- all that the law asks of the program -/
structure Env68 (P : Program) (w : World) (K : PySem.W.Frag) (mg : Str → Option Value) (base : Heap) (CR C CH CE c0 c1 c2 CC c4 c5 pC fC pS fS : Addr) (T : List (Addr × Str)) : Prop where
  M : Mg mg
  Mx : mg "max" = none
  Ms : mg "set" = none
  HT : HidT K CH
  RT : RsTab mg CE c0 c1 c2 CC c4 c5
  RC : RsC K CE c0 c1 c2 CC c4 c5
  taken : ∃ f fd, Fb K mg "_law_taken" sTaken ["_law_row", "_law_many"] f fd ∧ FnOk P w K mg base CX0 1 f fd ["_law_row", "_law_many"] (spTaken K)
  drawn : ∃ f fd, Fb K mg "_law_drawn" sDrawn ["_law_row", "_law_sections_here", "_law_cars_here"] f fd ∧ FnOk P w K mg base CX0 6 f fd ["_law_row", "_law_sections_here", "_law_cars_here"] (spDrawn K CR)
  driven : ∃ f fd c, FbC K mg "_law_driven" sDriven ["_law_sections_here", "_law_cars_here"] f fd c ∧ FnOk P w K mg base CX0 3 f fd ["_law_sections_here", "_law_cars_here"] (spDriven T)
  make : ∃ f fd, Mk K CH f ∧ mg "HiddenPace" = some (.ref CH) ∧ Binds K fd ["self", "road", "cars", "name", "start"] [] ∧ FnOk P w K mg base CX0 7 f fd ["self", "road", "cars", "name", "start"] (spHInit CR CH C T)
  see : ∃ f fd, Fm K CH "see" "HiddenPace.see" sHiddenPaceSee ["self", "place", "tick"] f fd ∧ FnOk P w K mg base (L2.CX P w) 5 f fd ["self", "place", "tick"] (spSee CH C CC)
  seeO : ∃ f, Meth K CH "see_order" f ∧ FnR P w K mg base (L2.CX P w) 5 f (spSeeO CH C CC)
  poss : ∃ f fd, Fm K CH "possible_ticks" "HiddenPace.possible_ticks" sHiddenPacePossibleTicks ["self", "place"] f fd ∧ FnOk P w K mg base CX0 5 f fd ["self", "place"] (spPoss CH C)
  best : ∃ f fd, Fm K CH "best_place" "HiddenPace.best_place" sHiddenPaceBestPlace ["self"] f fd ∧ FnOk P w K mg base CX0 6 f fd ["self"] (spBest CH C)
  cands : ∃ d, PropOf K CH "candidates" pC fC ∧ Binds K d ["self"] [] ∧ FnOk P w K mg base CX0 1 fC d ["self"] (spCands CH C)
  hist : ∃ d, PropOf K CH "history" pS fS ∧ Binds K d ["self"] [] ∧ FnOk P w K mg base CX0 1 fS d ["self"] (spHist CH C)
  raised : ∃ g cdv, Teller K mg "_law_raised" "_law_work" g nRaised (defBody sRaised) (defScope sRaised) cdv
section
variable {P : Program} {w : World} {K : PySem.W.Frag} {mg : Str → Option Value} {base : Heap}
def spLaw (K : PySem.W.Frag) (T : List (Addr × Str)) : Sp := fun vs H Q _ => ∃ (sc : Addr) (ns : List Int), vs = [.ref sc] ∧ SqL K H sc (ns.map V.int) ∧ Tabs T H ∧ ∀ H', Q (.bl true) H'
theorem ok_law {f c Pt CR C CH CE c0 c1 c2 CC c4 c5 pC fC pS fS : Addr} {fd : FuncData} {T : List (Addr × Str)} (F : FunC K "law" "law" sLaw f fd c) (TB : TabB base mg c Pt) (hm : (Pt, qLaw) ∈ T) (hut : ∀ p ∈ T, p.1 = Pt → p.2 = qLaw) (X9 : Env68 P w K mg base CR C CH CE c0 c1 c2 CC c4 c5 pC fC pS fS T) : FnOk P w K mg base CX0 11 f fd ["_law_script"] (spLaw K T) := by
  refine F.ok scLaw (fun vs H Q E h => ?_) (fun A outer s Hs vs Q E hr h => ?_)
  · obtain ⟨sc, ns, rfl, _⟩ := h
    rfl
  · obtain ⟨sc, ns, rfl, hsc, hT, k⟩ := h
    have nd := scLaw.nd
    have hu := hu_of hr
    have hu64 := hr.units
    have M := X9.M
    have Mx := X9.Mx
    have Ms := X9.Ms
    have HT := X9.HT
    have RT := X9.RT
    have RC := X9.RC
    obtain ⟨_, _, BTk, GTk⟩ := X9.taken
    obtain ⟨_, _, BDw, GDw⟩ := X9.drawn
    obtain ⟨_, _, _, BDr, GDr⟩ := X9.driven
    obtain ⟨_, _, MKH, mgH, bHI, GHI⟩ := X9.make
    obtain ⟨_, _, BSe, GSe⟩ := X9.see
    obtain ⟨_, MSO, GSO⟩ := X9.seeO
    obtain ⟨_, _, BPo, GPo⟩ := X9.poss
    obtain ⟨_, _, BBe, GBe⟩ := X9.best
    obtain ⟨_, PCa, bCa, GCa⟩ := X9.cands
    obtain ⟨_, PHi, bHi, GHi⟩ := X9.hist
    obtain ⟨_, _, WT⟩ := X9.raised
    have room : ∀ n, n ≤ 10 → Room n (A.deeper (PyProof.Rows.envOfC "law" (defScope sLaw) s.heap.objs.size f (.ref c))) := fun n h => hr.mono h
    have hr1 := room 1 (by decide)
    have hr2 := room 2 (by decide)
    have hr5 := room 5 (by decide)
    have hr6 := room 6 (by decide)
    have hr8 := room 8 (by decide)
    have hrD := room 3 (by decide)
    have hr10 : Room (8 + 2) (A.deeper (PyProof.Rows.envOfC "law" (defScope sLaw) s.heap.objs.size f (.ref c))) := room 10 (by decide)
    refine ⟨_, (pss_cons (ps_set (i := 1) nd rfl (.inl rfl) (pe_lst (pa_cons (pv 0) (pa_cons pe_int (pa_cons pe_int (pa_cons pe_int pa_nil)))))) (pss_cons (ps_asg (pe_call GDw hr6 (by rfl) BDw.at_ BDw.fn.kp BDw.bd .nil pass0 (pa_cons (pv 1) (pa_cons pe_int (pa_cons pe_int pa_nil)))) (pg_tup rfl (pgs_cons (pg_name (i := 2) nd rfl (.inl rfl)) (pgs_cons (pg_name (i := 3) nd rfl (.inr rfl)) (pgs_cons (pg_name (i := 4) nd rfl (.inr rfl)) pgs_nil))))) (pss_cons (ps_asg (pe_tup (pa_cons (pe_call GTk hr1 (by rfl) BTk.at_ BTk.fn.kp BTk.bd .nil pass0 (pa_cons (pv 1) (pa_cons pe_int pa_nil))) (pa_cons (pe_listRg (by rfl) (by rfl) M.list (prg_2 (by rfl) M.range pe_int pe_int)) (pa_cons (pe_lst pa_nil) pa_nil)))) (pg_tup rfl (pgs_cons (pg_name (i := 5) nd rfl (.inr rfl)) (pgs_cons (pg_name (i := 6) nd rfl (.inr rfl)) (pgs_cons (pg_name (i := 7) nd rfl (.inl rfl)) pgs_nil))))) (pss_cons (ps_set (i := 8) nd rfl (.inr rfl) (pe_lc (own := [("_law_pace", 21)]) (g := gName 21) (tt := tYes) (te := tCall (spDriven T) [] L2.E0 (tCons (tVar 3) (tCons (tOp (rCatA K) (tVar 4) (tTup (tCons (tTup (tCons (tC (.str "z")) (tCons (tVar 5) (tCons (tVar 21) tNil)))) tNil))) tNil))) (by rfl) nd (pi_list (pv 6)) (blkOk_by (N := nLaw) (sc := defScope sLaw) (by decide +kernel)) (fun _ _ _ _ _ => (pg_name (i := 21) nd rfl (.inl rfl))) (fun _ _ _ _ _ => pts_nil) (fun _ _ _ _ _ => (pe_call GDr hrD (by rfl) BDr.at_ BDr.fn.kp BDr.bd .nil pass0 (pa_cons (pv 3) (pa_cons (pe_op op_catA (pv 4) (pe_tup (pa_cons (pe_tup (pa_cons pe_str (pa_cons (pv 5) (pa_cons (pv 21) pa_nil)))) pa_nil))) pa_nil)))))) (pss_cons (ps_asg (pe_tup (pa_cons (pe_make MKH GHI hr8 (by rfl) mgH bHI .nil pass0 (pa_cons (pv 2) (pa_cons (pv 4) (pa_cons pe_str (pa_cons (pv 5) pa_nil))))) (pa_cons (pe_call GTk hr1 (by rfl) BTk.at_ BTk.fn.kp BTk.bd .nil pass0 (pa_cons (pv 1) (pa_cons pe_int pa_nil))) pa_nil))) (pg_tup rfl (pgs_cons (pg_name (i := 9) nd rfl (.inr rfl)) (pgs_cons (pg_name (i := 10) nd rfl (.inl rfl)) pgs_nil)))) (pss_cons (ps_for PassesOwn.never rfl (pi_range1 (by rfl) M.range (pa_cons (pe_op op_add pe_int (pe_call GTk hr1 (by rfl) BTk.at_ BTk.fn.kp BTk.bd .nil pass0 (pa_cons (pv 1) (pa_cons pe_int pa_nil)))) pa_nil)) (pg_name (i := 11) nd rfl (.inl rfl)) (pss_cons (ps_set (i := 12) nd rfl (.inr rfl) (pe_call GTk hr1 (by rfl) BTk.at_ BTk.fn.kp BTk.bd .nil pass0 (pa_cons (pv 1) (pa_cons (pe_op op_add (pe_callB call_len_seq (by rfl) M.len boot_len (pa_cons (pv 3) pa_nil)) pe_int) pa_nil)))) (pss_cons (ps_if (PW.pt (pw_and (pt_cmpR (op_neD hu64) (pv 4) (pe_tup pa_nil) (nomark _)) (pw_and1 (pt_cmpR op_eq (pe_call GTk hr1 (by rfl) BTk.at_ BTk.fn.kp BTk.bd .nil pass0 (pa_cons (pv 1) (pa_cons pe_int pa_nil))) pe_int (nomark _))))) (pss_cons (ps_set (i := 13) nd rfl (.inr rfl) (pe_ix (r := rIxT K) ix_tup (pe_ix (r := rIxT K) ix_tup (pv 4) (pe_call GTk hr1 (by rfl) BTk.at_ BTk.fn.kp BTk.bd .nil pass0 (pa_cons (pv 1) (pa_cons (pe_callB call_len_seq (by rfl) M.len boot_len (pa_cons (pv 4) pa_nil)) pa_nil))) (fun _ _ => rfl)) pe_int (fun _ _ => rfl))) (pss_cons (ps_set (i := 14) nd rfl (.inr rfl) (pe_lc (own := [("_law_name", 22)]) (g := gName 22) (tt := tTest (tOp (rIn K false) (tVar 22) (tTup (tCons (tC (.str "z")) (tCons (tVar 13) tNil))))) (te := tVar 22) (by rfl) nd (pi_list (pe_ix (r := rIxL K) ix_list (pe_ix (r := rIxT K) ix_tup (pe_ix (r := rIxL K) ix_list (pv 8) (pv 10) (fun _ _ => rfl)) pe_int (fun _ _ => rfl)) (pv 12) (fun _ _ => rfl))) (blkOk_by (N := nLaw) (sc := defScope sLaw) (by decide +kernel)) (fun _ _ _ _ _ => (pg_name (i := 22) nd rfl (.inl rfl))) (fun _ _ _ _ _ => (pts_one (pt_cmpR op_in_seq (pv 22) (pe_tup (pa_cons pe_str (pa_cons (pv 13) pa_nil))) (by rfl)))) (fun _ _ _ _ _ => (pv 22)))) (pss_cons (ps_if (pt_cmpR op_eq (pe_call GTk hr1 (by rfl) BTk.at_ BTk.fn.kp BTk.bd .nil pass0 (pa_cons (pv 1) (pa_cons pe_int pa_nil))) pe_int (nomark _)) (pss_one (ps_set (i := 14) nd rfl (.inr rfl) (pe_revL (pv 14)))) pss_nil) (pss_cons (ps_setLc (i := 15) (own := [("_law_p", 23)]) (g := gName 23) (tt := tTest (tOp (rEqD K) (tLc (iList K (tOp (rIxL K) (tOp (rIxT K) (tOp (rIxL K) (tVar 8) (tOp (rI0 fun i j => V.int (i - j)) (tVar 23) (tC (.int 1)))) (tC (.int 1))) (tVar 12))) (gName 24) (tTest (tOp (rIn K false) (tVar 24) (tVar 14))) (tVar 24) [24]) (tVar 14))) (te := tVar 23) (by rfl) nd rfl rfl (sw_true rfl rfl rfl (by decide +kernel)) (pi_list (pv 6)) (blkOk_by (N := nLaw) (sc := defScope sLaw) (by decide +kernel)) (fun _ _ _ _ _ => (pg_name (i := 23) nd rfl (.inl rfl))) (fun _ _ _ _ _ => (pts_one (pt_cmpR (op_eqD hu64) (pe_lc (own := [("_law_n", 24)]) (g := gName 24) (tt := tTest (tOp (rIn K false) (tVar 24) (tVar 14))) (te := tVar 24) (by rfl) nd (pi_list (pe_ix (r := rIxL K) ix_list (pe_ix (r := rIxT K) ix_tup (pe_ix (r := rIxL K) ix_list (pv 8) (pe_op op_sub (pv 23) pe_int) (fun _ _ => rfl)) pe_int (fun _ _ => rfl)) (pv 12) (fun _ _ => rfl))) (blkOk_by (N := nLaw) (sc := scGood) (by decide +kernel)) (fun _ _ _ _ _ => (pg_name (i := 24) nd rfl (.inl rfl))) (fun _ _ _ _ _ => (pts_one (pt_cmpR op_in_seq (pv 24) (pv 14) (by rfl)))) (fun _ _ _ _ _ => (pv 24))) (pv 14) (nomark _)))) (fun _ _ _ _ _ => (pv 23))) (pss_cons (ps_set (i := 16) nd rfl (.inl rfl) (pe_told WT (by rfl) (raised_gives M RT RC) hr10 (pe_lamV TB rfl hm hut (lamS2_by (N := nLaw) (sc := defScope sLaw) (by decide +kernel))))) (pss_one (ps_set (i := 17) nd rfl (.inl rfl) (pe_tup (pa_cons pe_str (pa_cons (pv 12) (pa_cons (pe_ix ix_list (pv 14) pe_int (fun _ _ => rfl)) (pa_cons (pe_ix ix_list (pv 14) pe_int (fun _ _ => rfl)) pa_nil)))))))))))) (pss_cons (ps_set (i := 18) nd rfl (.inr rfl) (pe_op op_add (pe_ix (r := rIxL K) ix_list (pe_dget hu (pe_ix (r := rIxT K) ix_tup (pe_ix (r := rIxL K) ix_list (pv 8) (pv 10) (fun _ _ => rfl)) pe_int (fun _ _ => rfl)) pe_str (fun _ _ => rfl)) (pv 12) (fun _ _ => rfl)) (pe_ix ix_list (pe_lst (pa_cons pe_int (pa_cons pe_int (pa_cons pe_int (pa_cons pe_int pa_nil))))) (pe_call GTk hr1 (by rfl) BTk.at_ BTk.fn.kp BTk.bd .nil pass0 (pa_cons (pv 1) (pa_cons pe_int pa_nil))) (fun _ _ => rfl)))) (pss_cons (ps_setLc (i := 15) (own := [("_law_p", 23)]) (g := gName 23) (tt := tTest (tOp rEq (tOp (rIxL K) (tDGet (tOp (rIxT K) (tOp (rIxL K) (tVar 8) (tOp (rI0 fun i j => V.int (i - j)) (tVar 23) (tC (.int 1)))) (tC (.int 0))) (tC (.str "z"))) (tVar 12)) (tVar 18))) (te := tVar 23) (by rfl) nd rfl rfl (sw_true rfl rfl rfl (by decide +kernel)) (pi_list (pv 6)) (blkOk_by (N := nLaw) (sc := defScope sLaw) (by decide +kernel)) (fun _ _ _ _ _ => (pg_name (i := 23) nd rfl (.inl rfl))) (fun _ _ _ _ _ => (pts_one (pt_cmpR op_eq (pe_ix (r := rIxL K) ix_list (pe_dget hu (pe_ix (r := rIxT K) ix_tup (pe_ix (r := rIxL K) ix_list (pv 8) (pe_op op_sub (pv 23) pe_int) (fun _ _ => rfl)) pe_int (fun _ _ => rfl)) pe_str (fun _ _ => rfl)) (pv 12) (fun _ _ => rfl)) (pv 18) (nomark _)))) (fun _ _ _ _ _ => (pv 23))) (pss_one (ps_par (i := 16) (j := 17) rfl nd rfl rfl (by decide) rfl rfl (pa_cons (pe_told WT (by rfl) (raised_gives M RT RC) hr10 (pe_lamD (a := "_law_x") TB rfl hm hut (lamS2_by (N := nLaw) (sc := defScope sLaw) (by decide +kernel)))) (pa_cons (pe_tup (pa_cons pe_str (pa_cons (pv 12) (pa_cons (pv 18) pa_nil)))) pa_nil)) rfl))))) (pss_cons (ps_if (pt_cmpR (op_neD hu64) (pv 16) (pe_ifExp (pt_cmpR (op_neD hu64) (pv 15) (pe_lst pa_nil) (nomark _)) pe_non (pe_tup (pa_cons pe_str pa_nil))) (nomark _)) (pss_one (ps_ret pe_bl)) pss_nil) (pss_cons (ps_if (pt_cmp (pc_isN (pv 16))) (pss_one (ps_asg (pe_tup (pa_cons (pv 15) (pa_cons (pe_op op_cat (pv 7) (pe_lst (pa_cons (pv 17) pa_nil))) pa_nil))) (pg_tup rfl (pgs_cons (pg_name (i := 6) nd rfl (.inr rfl)) (pgs_cons (pg_name (i := 7) nd rfl (.inl rfl)) pgs_nil))))) pss_nil) (pss_one (ps_if (PW.pt (pw_or (pt_cmpR (op_neD hu64) (pe_prop (pv 9) HT.cl PCa GCa hr2 bCa .nil pass0 rfl) (pv 6) (nomark _)) (pw_or1 (pt_cmpR (op_neD hu64) (pe_prop (pv 9) HT.cl PHi GHi hr2 bHi .nil pass0 rfl) (pv 7) (nomark _))))) (pss_one (ps_ret pe_bl)) pss_nil))))))) (pss_cons (ps_setLc (i := 19) (own := [("_law_k", 25)]) (g := gName 25) (tt := tYes) (te := tCB (rSortedSet w) (tCons (tCB (rSetL K w) (tCons (tLc (iList K (tVar 6)) (gName 23) tYes (tOp (rIxL K) (tDGet (tOp (rIxT K) (tOp (rIxL K) (tVar 8) (tOp (rI0 fun i j => V.int (i - j)) (tVar 23) (tC (.int 1)))) (tC (.int 0))) (tC (.str "z"))) (tVar 25)) [23]) tNil)) tNil)) (by rfl) nd rfl rfl (sw_true rfl rfl rfl (by decide +kernel)) (pi_range1 (by rfl) M.range (pa_cons (pe_op op_add (pe_callB call_len_seq (by rfl) M.len boot_len (pa_cons (pv 3) pa_nil)) pe_int) pa_nil)) (blkOk_by (N := nLaw) (sc := defScope sLaw) (by decide +kernel)) (fun _ _ _ _ _ => (pg_name (i := 25) nd rfl (.inr rfl))) (fun _ _ _ _ _ => pts_nil) (fun _ _ _ _ _ => (pe_callB (cr_sortedSet rfl) (by rfl) M.sorted boot_sorted (pa_cons (pe_callTy (cr_setL rfl) (by rfl) Ms boot_set' (pa_cons (pe_lc (own := [("_law_p", 23)]) (g := gName 23) (tt := tYes) (te := (tOp (rIxL K) (tDGet (tOp (rIxT K) (tOp (rIxL K) (tVar 8) (tOp (rI0 fun i j => V.int (i - j)) (tVar 23) (tC (.int 1)))) (tC (.int 0))) (tC (.str "z"))) (tVar 25))) (by rfl) nd (pi_list (pv 6)) (blkOk_by (N := nLaw) (sc := scTicks) (by decide +kernel)) (fun _ _ _ _ _ => (pg_name (i := 23) nd rfl (.inl rfl))) (fun _ _ _ _ _ => pts_nil) (fun _ _ _ _ _ => (pe_ix (r := rIxL K) ix_list (pe_dget hu (pe_ix (r := rIxT K) ix_tup (pe_ix (r := rIxL K) ix_list (pv 8) (pe_op op_sub (pv 23) pe_int) (fun _ _ => rfl)) pe_int (fun _ _ => rfl)) pe_str (fun _ _ => rfl)) (pv 25) (fun _ _ => rfl)))) pa_nil)) pa_nil)))) (pss_cons (ps_if (pt_cmpR (op_neD hu64) (pe_lc (own := [("_law_k", 25)]) (g := gName 25) (tt := tYes) (te := tMeth CH "possible_ticks" (spPoss CH C) [] L2.E0 (tVar 9) (tCons (tVar 25) tNil)) (by rfl) nd (pi_range1 (by rfl) M.range (pa_cons (pe_op op_add (pe_callB call_len_seq (by rfl) M.len boot_len (pa_cons (pv 3) pa_nil)) pe_int) pa_nil)) (blkOk_by (N := nLaw) (sc := defScope sLaw) (by decide +kernel)) (fun _ _ _ _ _ => (pg_name (i := 25) nd rfl (.inl rfl))) (fun _ _ _ _ _ => pts_nil) (fun _ _ _ _ _ => (pe_meth (pv 9) HT.cl BPo.at_ GPo hr5 BPo.bd .nil pass0 (pa_cons (pv 25) pa_nil)))) (pv 19) (nomark _)) (pss_one (ps_ret pe_bl)) pss_nil) (pss_cons (ps_setLc (i := 20) (own := [("_law_one", 17)]) (g := gName 17) (tt := tYes) (te := tCB (fun xs H Q => ∃ p ys, xs = [V.ref p] ∧ (SqL K H p ys ∨ SqT K H p ys) ∧ Q (V.int ys.length) H) (tCons (tVar 17) tNil)) (by rfl) nd rfl rfl (sw_true rfl rfl rfl (by decide +kernel)) (pi_list (pv 19)) (blkOk_by (N := nLaw) (sc := defScope sLaw) (by decide +kernel)) (fun _ _ _ _ _ => (pg_name (i := 17) nd rfl (.inl rfl))) (fun _ _ _ _ _ => pts_nil) (fun _ _ _ _ _ => (pe_callB call_len_seq (by rfl) M.len boot_len (pa_cons (pv 17) pa_nil)))) (pss_one (ps_ret (pe_cmpR op_eq (pe_meth0 (pv 9) HT.cl BBe.at_ GBe hr6 BBe.bd .nil pass0) (pe_bm PySem.F.plainAttrs_list PySem.F.slot_list_index PySem.F.type_list_index mt_index (pv 20) (pa_cons (pe_callB (cr_max rfl) (by rfl) Mx boot_max' (pa_cons (pv 20) pa_nil)) pa_nil)) (nomark _))))))))))))), ?_⟩
    -- the row
    refine ⟨_, rfl, by show 4 ≤ sizeLine; decide, fun r hr0 => ?_⟩
    have S0 := sameNew hr0 (.lst [V.ref sc, V.int 0, V.int 0, V.int 0])
    have R0 : RowAt K (upd Hs r (.lst [V.ref sc, V.int 0, V.int 0, V.int 0])) r sc ns := by
      refine ⟨⟨0, 0, 0, upd_same⟩, fun H' k' => ?_⟩
      rcases hsc with (h | ⟨o, h⟩) | h
      · exact .inl (.inl (k' _ _ (S0 _ _ h) (ne_of_none h hr0)))
      · exact .inl (.inr ⟨o, k' _ _ (S0 _ _ h) (ne_of_none h hr0)⟩)
      · exact .inr h
    have T0 := hT.ext S0
    generalize upd Hs r (.lst [V.ref sc, V.int 0, V.int 0, V.int 0]) = H0 at S0 R0 T0 ⊢
    refine ⟨_, rfl, r, sc, ns, 5, 4, rfl, by decide, by decide, by decide, R0, fun H1 t p0 l a bs cars k1 R1 ht1 rd1 rn1 nl ct1 SO CO hm5 hc4 hz => ?_⟩
    have T1 := Tabs.row T0 R0 k1
    have hzn : ("z" : Str) ∉ names cars := fun z => by
      obtain ⟨c, hc, e⟩ := List.mem_map.mp z
      exact hz c hc e
    refine ⟨t, _, rfl, SqT.of ht1, rfl, _, _, rfl, _, _, rfl, _, _, rfl, rfl, ?_⟩
    generalize hsec : runsOf bs = secs at *
    -- the start, the paces
    refine ⟨_, rfl, r, sc, ns, 30, rfl, by decide, by decide, R1, fun H2 st k2 R2 hst => ?_⟩
    have rd2 : RoadAt CR H2 p0 secs := by
      obtain ⟨xs, hx⟩ : ∃ xs, H1 r = some (.lst xs) := let ⟨a, b, c, h⟩ := R1.at_; ⟨_, h⟩
      exact rd1.keepB k2 hx
    have rn2 := rn1.nk (NK.keep R1 k2)
    have ct2 := ct1.nk (NK.keep R1 k2)
    have T2 := Tabs.row T1 R1 k2
    refine ⟨1, 61, rfl, rfl, RgOk.of_le (by decide) (by decide) (by decide) (by decide), fun lf hlf => ?_⟩
    rw [show rgV 1 61 = paces60.map (fun k => V.int ((k : Nat) : Int)) from by decide +kernel]
    refine ⟨by show 0 ≤ sizeLine; decide, fun se hse => ?_⟩
    refine ⟨by show 3 ≤ sizeLine; decide, fun t2 ht2 => ?_⟩
    refine ⟨t2, _, rfl, SqT.of upd_same, rfl, _, _, rfl, _, _, rfl, _, _, rfl, rfl, ?_⟩
    have S3 := (sameNew hlf (.lst (paces60.map fun k => V.int ((k : Nat) : Int)))).trans ((sameNew hse (.lst [])).trans (sameNew ht2 (.tup [V.int ((st : Nat) : Int), V.ref lf, V.ref se])))
    have hlf3 : upd (upd (upd H2 lf (.lst (paces60.map fun k => V.int ((k : Nat) : Int)))) se (.lst [])) t2 (.tup [V.int ((st : Nat) : Int), V.ref lf, V.ref se]) lf = some (.lst (paces60.map fun k => V.int ((k : Nat) : Int))) := sameNew ht2 _ _ _ (sameNew hse _ _ _ upd_same)
    have hse3 : upd (upd (upd H2 lf (.lst (paces60.map fun k => V.int ((k : Nat) : Int)))) se (.lst [])) t2 (.tup [V.int ((st : Nat) : Int), V.ref lf, V.ref se]) se = some (.lst []) := sameNew ht2 _ _ _ upd_same
    generalize upd (upd (upd H2 lf (.lst (paces60.map fun k => V.int ((k : Nat) : Int)))) se (.lst [])) t2 (.tup [V.int ((st : Nat) : Int), V.ref lf, V.ref se]) = H3 at S3 hlf3 hse3 ⊢
    have R3 := R2.same S3
    have T3 := T2.ext S3
    have rd3 := rd2.ext (ExtN.same S3)
    have rn3 := rn2.ext (ExtN.same S3)
    have ct3 := ct2.same S3
    clear S3 hlf hse ht2 rd2 rn2 ct2 T2 R2 k2 rd1 rn1 ct1 T1 R1 k1 ht1 S0 R0 T0 hT hsc hr0
    -- the drives by all paces
    have len60 : (paces60.map fun k => V.int ((k : Nat) : Int)).length = 60 := by decide +kernel
    refine ⟨_, rfl, lf, rfl, ⟨_, SqL.of hlf3⟩, fun D hD => ?_⟩
    refine lc_it walk_list (fun i H => ExtN H3 H ∧ Tabs T H ∧ ∃ ts : List Addr, H D = some (.lst (ts.map V.ref)) ∧ ts.length = i ∧ ∀ (j : Nat) (t : Addr), ts[j]? = some t → ∃ tk od ld : Addr, H t = some (.tup [.ref tk, .ref od, .ref ld]) ∧ TksAt H tk secs (zc cars st (j + 1)) ∧ OrdsAt H od secs (zc cars st (j + 1)))
      ⟨ExtN.same (sameNew hD (.lst [])), T3.ext (sameNew hD (.lst [])), [], upd_same, rfl, fun _ _ z => nomatch z⟩ (fun i H _ ⟨e, _⟩ => SqL.of (ExtN.lst e hlf3)) ?_ ?_
    · rintro i y Hz H6 hi ⟨e6, T6, ts, hD6, htl, hts⟩ ⟨e, hy⟩
      subst e
      rw [len60] at hi
      have hy : y = V.int ((i + 1 : Nat) : Int) := by
        have hget : (paces60.map fun k => V.int ((k : Nat) : Int))[i]? = some (V.int ((i + 1 : Nat) : Int)) := by
          unfold paces60
          rw [List.getElem?_map, List.getElem?_map, List.getElem?_range hi]
          rfl
        exact Option.some.inj (hy.symm.trans hget)
      subst hy
      refine ⟨rfl, yes_of ⟨_, rfl, _, rfl, _, rfl, _, rfl, by show 3 ≤ sizeLine; decide, fun t ht => ⟨by show 1 ≤ sizeLine; decide, fun u hu => ?_⟩⟩⟩
      have a1 := sameNew ht (.tup [V.str "z", V.int (st : Nat), V.int ((i + 1 : Nat) : Int)])
      have a2 := sameNew hu (.tup [V.ref t])
      have a12 := a1.trans a2
      obtain ⟨cs, c1, c2, c3⟩ := id ct3
      have hcs : (cs.map V.ref).length = cars.length := by rw [List.length_map, c2]
      have made : ∀ (q : Addr) (H7 : Hp), Same H6 H7 → CarsAt H7 q (zc cars st (i + 1)) → spDriven T [.ref l, .ref q] H7 (fun y H8 => ∃ acc, H8 D = some (.lst acc) ∧ acc.length < sizeLine ∧ (ExtN H3 (upd H8 D (.lst (acc ++ [y]))) ∧ Tabs T (upd H8 D (.lst (acc ++ [y]))) ∧ ∃ ts : List Addr, upd H8 D (.lst (acc ++ [y])) D = some (.lst (ts.map V.ref)) ∧ ts.length = i + 1 ∧ ∀ (j : Nat) (t : Addr), ts[j]? = some t → ∃ tk od ld : Addr, upd H8 D (.lst (acc ++ [y])) t = some (.tup [.ref tk, .ref od, .ref ld]) ∧ TksAt (upd H8 D (.lst (acc ++ [y]))) tk secs (zc cars st (j + 1)) ∧ OrdsAt (upd H8 D (.lst (acc ++ [y]))) od secs (zc cars st (j + 1)))) L2.E0 := by
        intro q H7 s7 ct
        refine ⟨l, q, secs, zc cars st (i + 1), rfl, rn3.ext (e6.trans (ExtN.same s7)), ct, SO, zc_ok CO hzn (by omega) (by omega) (by omega) (by omega), T6.ext s7, fun H8 t8 tk od ld e8 T8 h8 hk ho _ => ?_⟩
        have hD8 : H8 D = some (.lst (ts.map V.ref)) := ExtN.lst e8 (s7 _ _ hD6)
        have e68 : ExtN H6 H8 := (ExtN.same s7).trans e8
        have nk8 := Kg.nk (Kg.of e68)
        have tup8 : ∀ (j : Nat) (t : Addr), ts[j]? = some t → ∃ xs, H8 t = some (.tup xs) := fun j t e => let ⟨_, _, _, x, _⟩ := hts j t e; ⟨_, e68 _ _ x (fun _ z => nomatch z)⟩
        have zne : ∀ n, zc cars st n ≠ [] := fun n z => by
          have hl : (zc cars st n).length = 0 := by rw [z]; rfl
          unfold zc at hl
          rw [List.length_append] at hl
          cases hl
        refine ⟨_, hD8, by rw [List.length_map, htl]; exact small1000 (by omega), fun b o e n => ?_, ?_, ts ++ [t8], ?_, by rw [List.length_append, htl]; rfl, fun j t e => ?_⟩
        · rw [upd_ne (ne_of_none e hD)]
          exact e68 _ _ (e6 _ _ e n) n
        · exact fun pr hpr => by
            obtain ⟨ps, h1, h2, h3⟩ := T8 pr hpr
            refine ⟨ps, by rw [upd_ne (ne_of h1 hD8 (by intro z; cases z))]; exact h1, h2, fun pos cv hc => ?_⟩
            obtain ⟨c, e1, e2⟩ := h3 pos cv hc
            exact ⟨c, e1, by rw [upd_ne (ne_of e2 hD8 (by intro z; unfold CodeO at z; cases z))]; exact e2⟩
        · rw [upd_same, List.map_append]
          rfl
        · rcases snoc_get e with e | ⟨hj, rfl⟩
          · obtain ⟨tk1, od1, ld1, x1, x2, x3⟩ := hts j t e
            have x18 := e68 _ _ x1 (fun _ z => nomatch z)
            exact ⟨tk1, od1, ld1, by rw [upd_ne (ne_of x18 hD8 (by intro z; cases z))]; exact x18, (x2.nk nk8).put hD8 _, (x3.nk nk8).put hD8 tup8 (zne _) _⟩
          · rw [htl] at hj
            subst hj
            exact ⟨tk, od, ld, by rw [upd_ne (ne_of h8 hD8 (by intro z; cases z))]; exact h8, hk.put hD8 _, ho.put hD8 tup8 (zne _) _⟩
      refine ⟨a, u, _, _, rfl, rfl, SqT.of (a12 _ _ (e6 _ _ c1 (fun _ z => nomatch z))), SqT.of upd_same, Nat.le_trans (m := 1000) (by rw [hcs]; show cars.length + 1 ≤ 1000; omega) (by decide), fun nil => ?_, fun _ z => (nomatch z), fun ne _ q hq => ?_⟩
      · have cs0 : cs = [] := by cases cs with | nil => rfl | cons _ _ => cases nil
        refine made u _ a12 (zc_at (t := t) c2 (fun i t c e1 e2 => a12 _ _ (e6 _ _ (c3 i t c e1 e2) (fun _ z => nomatch z))) (a2 _ _ upd_same) ?_)
        rw [upd_same, cs0]
        rfl
      · have a3 := sameNew hq (.tup (cs.map V.ref ++ [V.ref t]))
        have a13 := a12.trans a3
        exact made q _ a13 (zc_at (t := t) c2 (fun i t c e1 e2 => a13 _ _ (e6 _ _ (c3 i t c e1 e2) (fun _ z => nomatch z))) (a3 _ _ (a2 _ _ upd_same)) upd_same)
    rintro H6 ⟨e6, T6, ts, hD6, htl, hts⟩
    rw [len60] at htl
    have dl6 : DrvsAt H6 D secs cars st := ⟨ts, hD6, htl, hts⟩
    have hlf6 := ExtN.lst e6 hlf3
    have hse6 := ExtN.lst e6 hse3
    have R6 := R3.kg (Kg.of e6)
    have rn6 := rn3.ext e6
    have rd6 := rd3.ext e6
    have ct6 := ct3.ext e6
    clear hts htl hD6 rn3 rd3 ct3 R3 T3 hlf3 hse3 e6 hD
    -- the hidden pace
    refine ⟨_, rfl, _, rfl, _, rfl, fun p dx hp hdx ne => ?_⟩
    have S6 : Same H6 (upd (upd H6 dx (.own p)) p (.ins CH dx [])) := fun b o e => by rw [upd_ne (ne_of_none e hp), upd_ne (ne_of_none e hdx)]; exact e
    refine ⟨H6, p, dx, p0, a, secs, cars, st, rfl, upd_same, S6, hp, rd6, ct6, SO, CO, hzn, by omega, by omega, T6, fun H7 cl dd hl e7 T7 HP7 => ⟨rfl, ?_⟩⟩
    have k7 := Kg.of e7
    have F7 : LawZ K T H7 r sc l a D ns secs cars st := ⟨R6.kg k7, T7, rn6.nk k7.nk, ct6.nk k7.nk, dl6.nk k7.nk⟩
    have hlf7 := ExtN.lst e7 hlf6
    have hse7 := ExtN.lst e7 hse6
    clear S6 e7 k7 R6 rn6 rd6 ct6 dl6 hlf6 hse6 T6 T7 hp hdx ne
    -- the true pace
    refine ⟨_, rfl, r, sc, ns, 60, rfl, by decide, by decide, F7.row, fun H8 tr k8 R8 htr => ?_⟩
    have nk8 := NK.keep F7.row k8
    have F8 := F7.keep k8 R8
    have HP8 := HP7.keep F7.row k8
    have hlf8 := IntsAt.nk hlf7 nk8
    have hse7b : TupsAt H7 se [] := ⟨[], hse7, rfl, fun _ _ _ e _ => nomatch e⟩
    have hse8 := TupsAt.nk hse7b nk8
    clear F7 HP7 hlf7 hse7 nk8 k8 R8
    refine ⟨by show 2 ≤ sizeLine; decide, fun t3 ht3 => ?_⟩
    have s9 := sameNew ht3 (.tup [V.ref p, V.int ((tr : Nat) : Int)])
    refine ⟨t3, _, rfl, SqT.of upd_same, rfl, _, _, rfl, _, _, rfl, rfl, ?_⟩
    generalize upd H8 t3 (.tup [V.ref p, V.int ((tr : Nat) : Int)]) = H9 at s9 ⊢
    have F9 := F8.same s9
    have HP9 := HP8.ext (ExtN.same s9)
    have hlf9 := s9 _ _ hlf8
    have hse9 := hse8.same s9
    clear F8 HP8 hlf8 hse8 s9 ht3
    -- the turns
    refine ⟨_, rfl, r, sc, ns, 4, rfl, by decide, by decide, F9.row, fun H10 tn k10 R10 htn => ?_⟩
    have nk10 := NK.keep F9.row k10
    have F10 := F9.keep k10 R10
    have HP10 := HP9.keep F9.row k10
    have hlf10 := IntsAt.nk hlf9 nk10
    have hse10 := TupsAt.nk hse9 nk10
    clear F9 HP9 hlf9 hse9 nk10 k10 R10
    refine ⟨_, _, rfl, rfl, _, rfl, by omega, by omega, ?_⟩
    refine for_it walk_range (fun i σ H => ∃ (L : List Nat) (hist : List (List V)) (lf se cl dd hl : Addr) (w10 w11 w12 w13 w14 w15 w16 w17 w18 w19 w20 w21 w22 w23 w24 w25 : Option V), σ = [some (.ref sc), some (.ref r), some (.ref p0), some (.ref l), some (.ref a), some (.int ((st : Nat) : Int)), some (.ref lf), some (.ref se), some (.ref D), some (.ref p), some (.int ((tr : Nat) : Int)), w11, w12, w13, w14, w15, w16, w17, w18, w19, w20, w21, w22, w23, w24, w25] ∧ LawZ K T H r sc l a D ns secs cars st ∧ HPat CH C H p dx secs cars st L hist cl dd hl ∧ H lf = some (.lst (L.map fun k => V.int ((k : Nat) : Int))) ∧ TupsAt H se hist ∧ hist.length ≤ i ∧ ∀ o ∈ hist, ∀ v ∈ o, FlOk v)
      ⟨paces60, [], lf, se, cl, dd, hl, none, none, none, none, none, none, none, none, none, none, none, none, none, none, none, none, rfl, F10, HP10, hlf10, hse10, Nat.le_refl _, fun _ z => nomatch z⟩ (fun _ _ _ _ _ => True.intro) ?_ ?_
    · rintro i x σ H H' hi ⟨L, hist, lf, se, cl, dd, hl, w10, w11, w12, w13, w14, w15, w16, w17, w18, w19, w20, w21, w22, w23, w24, w25, rfl, F, HP, hlf, hse, hh, hfl⟩ ⟨e, hx⟩
      subst e
      obtain ⟨xs, x1, x2, x3⟩ := id F.rn
      have hxs : (xs.map V.ref).length = secs.length := by rw [List.length_map, x2]
      -- the place
      refine ⟨_, rfl, _, rfl, l, _, rfl, .inl (SqL.of x1), _, _, rfl, rfl, r, sc, ns, secs.length + 1, by rw [hxs]; rfl, by omega, by omega, F.row, fun H1 pl k1 R1 hpl => ?_⟩
      have nk1 := NK.keep F.row k1
      have F1 := F.keep k1 R1
      have HP1 := HP.keep F.row k1
      have hlf1 := IntsAt.nk hlf nk1
      have hse1 := TupsAt.nk hse nk1
      clear F HP hlf hse nk1 k1 R1 x1 x3 hxs
      have hpl' : pl ≤ secs.length := by omega
      clear hpl x2
      have inO : ∀ (k : Nat) (n : Str), (n ∈ names cars ∨ n = "z") → n ∈ (plcC secs (zc cars st k) pl).ord := fun k n h => (plcC_perm secs (zc cars st k) pl).mem_iff.mpr (zc_in h)
      have ndO : ∀ k : Nat, (plcC secs (zc cars st k) pl).ord.Nodup := fun k => by
        refine (plcC_perm secs (zc cars st k) pl).nodup_iff.mpr ?_
        have h1 : (names (zc cars st 1)).Nodup := (zc_ok CO hzn (by omega) (by omega) (Nat.le_refl 1) (by decide)).nd
        rw [zc_names] at h1 ⊢
        exact h1
      have okN : ∀ n : Str, (n ∈ names cars ∨ n = "z") → PyData.strOk n = true := fun n h => h.elim (namesOk CO n) fun e => by rw [e]; exact strOk_z
      have okO : ∀ (k : Nat) (n : Str), n ∈ (plcC secs (zc cars st k) pl).ord → PyData.strOk n = true := fun k n h => by
        have h2 := (plcC_perm secs (zc cars st k) pl).mem_iff.mp h
        rw [zc_names] at h2
        rcases List.mem_append.mp h2 with h2 | h2
        · exact okN n (.inl h2)
        · exact okN n (.inr (List.mem_singleton.mp h2))
      have smallO : ∀ k : Nat, (plcC secs (zc cars st k) pl).ord.length ≤ 1000 := fun k => by
        rw [(plcC_perm secs (zc cars st k) pl).length_eq, zc_names, List.length_append]
        unfold names
        rw [List.length_map]
        show cars.length + 1 ≤ 1000
        omega
      have htr' : tr < 60 := htr
      -- what the turn observes
      refine gname_to ?_; dsimp only
      refine seq_cut (fun σ' H' => ∃ (gd on : Addr) (wv : V) (v11 v13 v14 v18 v19 v20 v21 v22 v23 v24 v25 : Option V), σ' = [some (.ref sc), some (.ref r), some (.ref p0), some (.ref l), some (.ref a), some (.int ((st : Nat) : Int)), some (.ref lf), some (.ref se), some (.ref D), some (.ref p), some (.int ((tr : Nat) : Int)), v11, some (.int ((pl : Nat) : Int)), v13, v14, some (.ref gd), some wv, some (.ref on), v18, v19, v20, v21, v22, v23, v24, v25] ∧ Turned K CH C T H' r sc l a D p dx ns secs cars st L hist lf se gd on wv) (fun nx done => ?_) ?_
      · refine viaT (fun b H3 => LawZ K T H3 r sc l a D ns secs cars st ∧ HPat CH C H3 p dx secs cars st L hist cl dd hl ∧ H3 lf = some (.lst (L.map fun k => V.int ((k : Nat) : Int))) ∧ TupsAt H3 se hist ∧ (b = true → cars ≠ [])) (fun Q hQ => ?_) ?_
        · refine ⟨_, rfl, by show 0 ≤ sizeLine; decide, fun e he => ?_⟩
          have s2 := sameNew he (.tup [])
          have he2 : upd H1 e (.tup []) e = some (.tup []) := upd_same
          have F2 := F1.same s2
          have HP2 := HP1.ext (ExtN.same s2)
          have hlf2 := s2 _ _ hlf1
          have hse2 := hse1.same s2
          generalize upd H1 e (.tup []) = H2 at s2 he2 F2 HP2 hlf2 hse2 ⊢
          refine ⟨carsD cars, .tuple [], dp_cars F2.ca, .tup (SqT.of he2) .nil, (shp_cars fun c hc => namesOk CO _ (List.mem_map_of_mem hc)).ok (by decide), rfl, _, rfl, ?_⟩
          rw [cars_nil]
          by_cases hc : cars = []
          · rw [decide_eq_true hc]
            exact iteF (hQ false H2 ⟨F2, HP2, hlf2, hse2, fun z => nomatch z⟩)
          · rw [decide_eq_false hc]
            refine iteT ⟨_, rfl, r, sc, ns, 2, rfl, by decide, by decide, F2.row, fun H3 c k3 R3 hc3 => ⟨rfl, _, rfl, ?_⟩⟩
            exact hQ _ H3 ⟨F2.keep k3 R3, HP2.keep F2.row k3, IntsAt.nk hlf2 (NK.keep F2.row k3), TupsAt.nk hse2 (NK.keep F2.row k3), fun _ => hc⟩
        rintro b H2 ⟨F2, HP2, hlf2, hse2, hb⟩
        clear F1 HP1 hlf1 hse1
        have pc := HP2.pc
        have few := HP2.few
        cases b with
        | true =>
          have hne := hb rfl
          refine iteT ?_
          have c1 : 1 ≤ cars.length := by
            cases cars with
            | nil => exact absurd rfl hne
            | cons _ _ => exact Nat.succ_le_succ (Nat.zero_le _)
          obtain ⟨ts, t1, t2, t3⟩ := id F2.ca
          have hts : (ts.map V.ref).length = cars.length := by rw [List.length_map, t2]
          refine ⟨_, rfl, _, rfl, _, rfl, a, _, rfl, .inr (SqT.of t1), r, sc, ns, cars.length, by rw [hts]; rfl, c1, by omega, F2.row, fun H3 q k3 R3 hq => ?_⟩
          have nk3 := NK.keep F2.row k3
          have F3 := F2.keep k3 R3
          have HP3 := HP2.keep F2.row k3
          have hlf3 := IntsAt.nk hlf2 nk3
          have hse3 := TupsAt.nk hse2 nk3
          obtain ⟨tc, htc⟩ : ∃ t, ts[q]? = some t := ⟨_, List.getElem?_eq_getElem (by omega)⟩
          obtain ⟨c, hc⟩ : ∃ c, cars[q]? = some c := ⟨_, List.getElem?_eq_getElem hq⟩
          refine ⟨a, _, _, .ref tc, rfl, rfl, SqT.of (nk3 _ _ t1 (.tup _)), atI_nat (map_atZ V.ref htc), tc, _, ((0 : Nat) : Int), .str c.name, rfl, rfl, SqT.of (nk3 _ _ (t3 q tc c htc hc) (.tup _)), atI_nat rfl, ?_⟩
          have cm : c.name ∈ names cars := List.mem_map_of_mem (List.mem_of_getElem? hc)
          have cz : c.name ≠ "z" := fun e => hzn (e ▸ cm)
          clear nk3 k3 R3 t1 t2 t3 hts htc
          clear F2 HP2 hlf2 hse2
          -- the two names, in the order of the true pace
          refine gname_to ?_; try dsimp only
          refine seq_asg (lc_list ?_)
          refine ord_rd F3.dl htr' hpl' rfl rfl (fun R hR => ⟨_, rfl, hR⟩) fun lo hlo => ⟨lo, rfl, ⟨_, SqL.of hlo⟩, ?_⟩
          refine lf_it V.str (pf "z" c.name) (smallO _) hlo (fun _ => rfl) (fun _ => rfl) (fun x H4 R hx s4 hR => ?_) fun pr H4 s4 npr hpr => ?_
          · refine ⟨_, rfl, _, rfl, by show 2 ≤ sizeLine; decide, fun u hu => ⟨u, _, rfl, .inr (SqT.of upd_same), rfl, rfl, _, rfl, ?_⟩⟩
            have hh := hR _ (sameNew hu (.tup [.str "z", .str c.name]))
            rw [← inV2] at hh
            exact hh
          rw [pf_two cz.symm (ndO _) (inO _ _ (.inr rfl)) (inO _ _ (.inl cm))] at hpr
          obtain ⟨u, v, huv, hu, hv, hpr⟩ : ∃ u v : Str, u ≠ v ∧ (u ∈ names cars ∨ u = "z") ∧ (v ∈ names cars ∨ v = "z") ∧ H4 pr = some (.lst ([u, v].map V.str)) := by
            by_cases g : posL "z" (plcC secs (zc cars st (tr + 1)) pl).ord < posL c.name (plcC secs (zc cars st (tr + 1)) pl).ord
            · rw [if_pos g] at hpr
              exact ⟨"z", c.name, cz.symm, .inr rfl, .inl cm, hpr⟩
            · rw [if_neg g] at hpr
              exact ⟨c.name, "z", cz, .inl cm, .inr rfl, hpr⟩
          have F4 := F3.same s4
          have HP4 := HP3.ext (ExtN.same s4)
          have hlf4 := s4 _ _ hlf3
          have hse4 := hse3.same s4
          clear s4 npr hlo
          clear F3 HP3 hlf3 hse3
          -- turned, or not
          refine gname_to ?_; try dsimp only
          refine seq_cut (fun σ' H' => ∃ (u v : Str) (pr : Addr), σ' = [some (.ref sc), some (.ref r), some (.ref p0), some (.ref l), some (.ref a), some (.int ((st : Nat) : Int)), some (.ref lf), some (.ref se), some (.ref D), some (.ref p), some (.int ((tr : Nat) : Int)), some x, some (.int ((pl : Nat) : Int)), some (.str c.name), some (.ref pr), w15, w16, w17, w18, w19, w20, w21, w22, w23, w24, w25] ∧ u ≠ v ∧ (u ∈ names cars ∨ u = "z") ∧ (v ∈ names cars ∨ v = "z") ∧ H' pr = some (.lst ([u, v].map V.str)) ∧ LawZ K T H' r sc l a D ns secs cars st ∧ HPat CH C H' p dx secs cars st L hist cl dd hl ∧ H' lf = some (.lst (L.map fun k => V.int ((k : Nat) : Int))) ∧ TupsAt H' se hist) (fun nx done => ?_) ?_
          · refine ⟨_, rfl, r, sc, ns, 4, rfl, by decide, by decide, F4.row, fun H5 q5 k5 R5 hq5 => ⟨rfl, _, rfl, ?_⟩⟩
            have nk5 := NK.keep F4.row k5
            have F5 := F4.keep k5 R5
            have HP5 := HP4.keep F4.row k5
            have hlf5 := IntsAt.nk hlf4 nk5
            have hse5 := TupsAt.nk hse4 nk5
            have hpr5 := nk5 _ _ hpr (.txts _)
            by_cases q0 : V.int ((q5 : Nat) : Int) = V.int 0
            · rw [decide_eq_true q0]
              refine iteT ⟨_, rfl, pr, _, rfl, SqL.of hpr5, fun p2 hp2 => ?_⟩
              have s6 := sameNew hp2 (.lst ([u, v].map V.str).reverse)
              exact done _ _ ⟨v, u, p2, rfl, huv.symm, hv, hu, upd_same, F5.same s6, HP5.ext (ExtN.same s6), s6 _ _ hlf5, hse5.same s6⟩
            · rw [decide_eq_false q0]
              exact iteF (done _ _ ⟨u, v, pr, rfl, huv, hu, hv, hpr5, F5, HP5, hlf5, hse5⟩)
          clear hpr huv hu hv
          clear F4 HP4 hlf4 hse4
          rintro σ5 H5 ⟨u, v, pr, rfl, huv, hu, hv, hpr, F5, HP5, hlf5, hse5⟩
          -- the paces that agree
          refine seq_asg (lc_list ⟨_, rfl, lf, rfl, ⟨_, SqL.of hlf5⟩, ?_⟩)
          refine lf_it (fun k : Nat => V.int ((k : Nat) : Int)) (zo secs cars st pl u v) (by omega) hlf5 (fun _ => rfl) (fun _ => rfl) (fun x H6 R hx s6 hR => ?_) fun gd H6 s6 ngd hgd => ?_
          · obtain ⟨q1, q2⟩ := pc x hx
            obtain ⟨m, rfl⟩ : ∃ m, x = m + 1 := ⟨x - 1, by omega⟩
            have F6 := F5.same s6
            have hpr6 := s6 _ _ hpr
            refine test_op (lc_list ?_)
            refine ord_rd (j := m) F6.dl (by omega) hpl' rfl rfl (fun R' hR' => ⟨_, rfl, _, _, rfl, rfl, ?_⟩) fun l2 hl2 => ⟨l2, rfl, ⟨_, SqL.of hl2⟩, ?_⟩
            · show R' (V.int (((m + 1 : Nat) : Int) - 1)) _
              rw [show ((m + 1 : Nat) : Int) - 1 = ((m : Nat) : Int) by omega]
              exact hR'
            refine lf_it V.str (pf u v) (smallO _) hl2 (fun _ => rfl) (fun _ => rfl) (fun n H7 R2 hn s7 hR2 => ?_) fun g2 H7 s7 ng2 hg2 => ?_
            · refine ⟨_, rfl, _, rfl, pr, _, rfl, .inl (SqL.of (s7 _ _ hpr6)), rfl, rfl, _, rfl, ?_⟩
              have hh := hR2 H7 (fun _ _ e => e)
              rw [← inV2] at hh
              exact hh
            · have hpr7 := s7 _ _ hpr6
              refine ⟨_, rfl, strsD _, strsD [u, v], dp_strs hg2, dp_strs hpr7, (shp_strsD fun n hn => okO _ n (List.mem_filter.mp hn).1).ok (by decide), (shp_strsD fun n hn => okN n ?_).ok (by decide), _, rfl, ?_⟩
              · rcases List.mem_cons.mp hn with rfl | hn
                · exact hu
                · rw [List.mem_singleton.mp hn]
                  exact hv
              rw [eqv_strsD, pf_self huv (ndO _) (inO _ u hu) (inO _ v hv)]
              exact hR H7 s7
          have F6 := F5.same s6
          have HP6 := HP5.ext (ExtN.same s6)
          have hlf6 := s6 _ _ hlf5
          have hse6 := hse5.same s6
          have hpr6 := s6 _ _ hpr
          clear s6 ngd hpr
          clear F5 HP5 hlf5 hse5
          -- what is told
          refine ⟨F6.tab, fun H7 fl e7 T7 hlam => ⟨fl, _, fun E => tMethR CH "see_order" (spSeeO CH C CC) E (tVar 9) (tCons (tVar 12) (tCons (tOp (rIxL K) (tVar 14) (tC (.int 0))) (tCons (tOp (rIxL K) (tVar 14) (tC (.int 1))) tNil))), rfl, ?_, ?_, ?_, hlam, ?_⟩⟩
          · exact lamS2_by (N := nLaw) (sc := defScope sLaw) (by decide +kernel)
          · exact fun _ _ _ _ _ _ => rfl
          · exact fun A' outer' s' H' E' f' c' hr' => pe_methR (pv 9) HT.cl MSO GSO (hr'.mono (by decide)) (passes_call (takes_of rfl rfl rfl rfl) fun _ _ _ _ h => h) (pa_cons (pv 12) (pa_cons (pe_ix (r := rIxL K) ix_list (pv 14) pe_int (fun _ _ => rfl)) (pa_cons (pe_ix (r := rIxL K) ix_list (pv 14) pe_int (fun _ _ => rfl)) pa_nil)))
          have F7 := F6.kg (Kg.of e7) T7
          have HP7 := HP6.ext e7
          have hlf7 := ExtN.lst e7 hlf6
          have hse7 := hse6.extN e7
          have hpr7 := ExtN.lst e7 hpr6
          have hgd7 := ExtN.lst e7 hgd
          clear hlam e7 T7 hpr6 hgd
          clear F6 HP6 hlf6 hse6
          refine ⟨_, rfl, p, dx, _, rfl, HP7.ins, hf_no _ _ _ _ (by decide +kernel) (by decide +kernel) (by decide +kernel) (by decide +kernel) (by decide +kernel), _, rfl, _, rfl, pr, _, ((0 : Nat) : Int), .str u, rfl, rfl, SqL.of hpr7, atI_nat rfl, _, rfl, pr, _, ((1 : Nat) : Int), .str v, rfl, rfl, SqL.of hpr7, atI_nat rfl, ?_⟩
          refine ⟨[.ref p, .int ((pl : Nat) : Int)], [.str u, .str v], rfl, rfl, by show 2 ≤ sizeLine; decide, fun t ht => ?_⟩
          have s8 := sameNew ht (.tup [V.str u, V.str v])
          have ht8 : upd H7 t (.tup [V.str u, V.str v]) t = some (.tup [V.str u, V.str v]) := upd_same
          generalize upd H7 t (.tup [V.str u, V.str v]) = H8 at s8 ht8 ⊢
          have F8 := F7.same s8
          have HP8 := HP7.ext (ExtN.same s8)
          have hlf8 := s8 _ _ hlf7
          have hse8 := hse7.same s8
          have hpr8 := s8 _ _ hpr7
          have hgd8 := s8 _ _ hgd7
          clear s8 hpr7 hgd7 ht
          clear F7 HP7 hlf7 hse7
          refine ⟨p, dx, t, secs, cars, st, L, hist, cl, dd, hl, pl, u, v, rfl, ht8, HP8, hpl', by omega, hu, hv, inO, by omega, ?_⟩
          have fl : ∀ w ∈ [V.str "see_order", V.int ((pl : Nat) : Int), V.str u, V.str v], FlOk w := fun w hw => by
            rcases List.mem_cons.mp hw with rfl | hw
            · exact .s strOk_seeO
            · rcases List.mem_cons.mp hw with rfl | hw
              · exact .i _
              · rcases List.mem_cons.mp hw with rfl | hw
                · exact .s (okN _ hu)
                · rw [List.mem_singleton.mp hw]
                  exact .s (okN _ hv)
          by_cases ge : L.filter (zo secs cars st pl u v) = []
          · refine .inl ⟨ge, fun H9 s9 => ⟨rfl, rfl, fun H10 wp s10 hwp => ?_⟩⟩
            have s0 := s9.trans s10
            refine ⟨_, rfl, _, rfl, pr, _, ((0 : Nat) : Int), .str u, rfl, rfl, SqL.of (s0 _ _ hpr8), atI_nat rfl, _, rfl, pr, _, ((1 : Nat) : Int), .str v, rfl, rfl, SqL.of (s0 _ _ hpr8), atI_nat rfl, by show 4 ≤ sizeLine; decide, fun on hon => ?_⟩
            have s11 := sameNew hon (.tup [V.str "see_order", V.int ((pl : Nat) : Int), V.str u, V.str v])
            have s1 := s0.trans s11
            exact done _ _ ⟨gd, on, .ref wp, _, _, _, _, _, _, _, _, _, _, _, rfl, F8.same s1, s1 _ _ hlf8, hse8.same s1, _, _, s1 _ _ hgd8, upd_same, fl, Nat.le_trans (List.length_filter_le _ _) few, .inl ⟨ge, wp, cl, dd, hl, rfl, s11 _ _ hwp, HP8.ext (ExtN.same s1)⟩⟩
          · refine .inr ⟨ge, fun H9 cl2 hl2 kp HP9 => ?_⟩
            have kg := Kg.kp HP8.ins kp
            have F9 := F8.kp HP8.ins kp
            have hpr9 := kg.nk _ _ hpr8 (.txts _)
            refine ⟨_, rfl, _, rfl, pr, _, ((0 : Nat) : Int), .str u, rfl, rfl, SqL.of hpr9, atI_nat rfl, _, rfl, pr, _, ((1 : Nat) : Int), .str v, rfl, rfl, SqL.of hpr9, atI_nat rfl, by show 4 ≤ sizeLine; decide, fun on hon => ?_⟩
            have s1 := sameNew hon (.tup [V.str "see_order", V.int ((pl : Nat) : Int), V.str u, V.str v])
            exact done _ _ ⟨gd, on, .non, _, _, _, _, _, _, _, _, _, _, _, rfl, F9.same s1, s1 _ _ (IntsAt.nk hlf8 kg.nk), (TupsAt.nk hse8 kg.nk).same s1, _, _, s1 _ _ (IntsAt.nk hgd8 kg.nk), upd_same, fl, Nat.le_trans (List.length_filter_le _ _) few, .inr ⟨ge, rfl, cl2, dd, hl2, HP9.ext (ExtN.same s1)⟩⟩
        | false =>
          refine iteF ?_
          refine seq_asg (op_it ?_)
          refine tk_rd F2.dl htr' hpl' rfl rfl (fun R hR => ⟨_, rfl, hR⟩) ?_
          refine ⟨by show 4 ≤ sizeLine; decide, fun q4 hq4 => ?_⟩
          have s3 := sameNew hq4 (.lst [V.int 0, V.int 0, V.int 0, V.int 1])
          have hq3 : upd H2 q4 (.lst [V.int 0, V.int 0, V.int 0, V.int 1]) q4 = some (.lst (([0, 0, 0, 1] : List Int).map V.int)) := upd_same
          have F3 := F2.same s3
          have HP3 := HP2.ext (ExtN.same s3)
          have hlf3 := s3 _ _ hlf2
          have hse3 := hse2.same s3
          generalize upd H2 q4 (.lst [V.int 0, V.int 0, V.int 0, V.int 1]) = H3 at s3 hq3 F3 HP3 hlf3 hse3 ⊢
          clear s3 hq4
          clear F2 HP2 hlf2 hse2
          refine ⟨_, rfl, r, sc, ns, 4, rfl, by decide, by decide, F3.row, fun H4 c k4 R4 hc => ?_⟩
          have nk4 := NK.keep F3.row k4
          have F4 := F3.keep k4 R4
          have HP4 := HP3.keep F3.row k4
          have hlf4 := IntsAt.nk hlf3 nk4
          have hse4 := TupsAt.nk hse3 nk4
          have hq := nk4 _ _ hq3 (.nums _)
          clear k4 R4 nk4 hq3
          clear F3 HP3 hlf3 hse3
          obtain ⟨b, hb, b0, b1⟩ : ∃ b : Int, ([0, 0, 0, 1] : List Int)[c]? = some b ∧ 0 ≤ b ∧ b ≤ 1 := by
            match c, hc with
            | 0, _ => exact ⟨0, rfl, by decide, by decide⟩
            | 1, _ => exact ⟨0, rfl, by decide, by decide⟩
            | 2, _ => exact ⟨0, rfl, by decide, by decide⟩
            | 3, _ => exact ⟨1, rfl, by decide, by decide⟩
          refine ⟨q4, _, _, .int b, rfl, rfl, SqL.of hq, atI_nat (map_atZ V.int hb), _, _, rfl, rfl, ?_⟩
          have t0 : 0 ≤ tz secs cars st pl (tr + 1) := tick_zero (zc_ok CO hzn (by omega) (by omega) (by omega) (by omega)) (zc_mem _ _ _) hpl'
          have t1 : tz secs cars st pl (tr + 1) ≤ 1100000 := tick_most (zc_ok CO hzn (by omega) (by omega) (by omega) (by omega)) SO (zc_mem _ _ _) hpl'
          refine gname_to (v := V.int (tz secs cars st pl (tr + 1) + b)) ?_; dsimp only
          obtain ⟨tick, htick⟩ : ∃ t, tz secs cars st pl (tr + 1) + b = t := ⟨_, rfl⟩
          rw [htick]
          have k0 : 0 ≤ tick := by omega
          have k1 : tick ≤ 1000000000 := by omega
          clear htick t0 t1 hb b0 b1 hq
          -- the paces that agree
          refine seq_asg (lc_list ⟨_, rfl, lf, rfl, ⟨_, SqL.of hlf4⟩, ?_⟩)
          refine lf_it (fun k : Nat => V.int ((k : Nat) : Int)) (fun k => decide (tz secs cars st pl k = tick)) (by omega) hlf4 (fun _ => rfl) (fun _ => rfl) (fun x H6 R hx s6 hR => ?_) fun gd H6 s6 ngd hgd => ?_
          · obtain ⟨q1, q2⟩ := pc x hx
            obtain ⟨m, rfl⟩ : ∃ m, x = m + 1 := ⟨x - 1, by omega⟩
            refine test_op ?_
            refine tk_rd (j := m) (F4.same s6).dl (by omega) hpl' rfl rfl (fun R' hR' => ⟨_, rfl, _, _, rfl, rfl, ?_⟩) ⟨_, rfl, rfl, _, rfl, ?_⟩
            · show R' (V.int (((m + 1 : Nat) : Int) - 1)) _
              rw [show ((m + 1 : Nat) : Int) - 1 = ((m : Nat) : Int) by omega]
              exact hR'
            · have hh := hR H6 (fun _ _ e => e)
              rw [show decide (V.int (tz secs cars st pl (m + 1)) = V.int tick) = decide (tz secs cars st pl (m + 1) = tick) by rw [decide_eq_decide]; exact ⟨fun z => V.int.inj z, fun z => congrArg V.int z⟩]
              exact hh
          have F6 := F4.same s6
          have HP6 := HP4.ext (ExtN.same s6)
          have hlf6 := s6 _ _ hlf4
          have hse6 := hse4.same s6
          clear s6 ngd
          clear F4 HP4 hlf4 hse4
          -- what is told
          refine ⟨F6.tab, fun H7 fl e7 T7 hlam => ⟨fl, _, fun E => tMeth CH "see" (spSee CH C CC) [] E (tVar 9) (tCons (tVar 12) (tCons (tVar 18) tNil)), rfl, ?_, ?_, ?_, hlam, ?_⟩⟩
          · exact lamS2_by (N := nLaw) (sc := defScope sLaw) (by decide +kernel)
          · exact fun _ _ _ _ _ _ _ => ⟨_, rfl, fun _ => rfl⟩
          · exact fun A' outer' s' H' E' f' c' hr' => pe_meth (pv 9) HT.cl BSe.at_ GSe (hr'.mono (by decide)) BSe.bd .nil (passes_call (takes_of rfl rfl rfl rfl) fun _ _ _ _ h => h) (pa_cons (pv 12) (pa_cons (pv 18) pa_nil))
          have F7 := F6.kg (Kg.of e7) T7
          have HP7 := HP6.ext e7
          have hlf7 := ExtN.lst e7 hlf6
          have hse7 := hse6.extN e7
          have hgd7 := ExtN.lst e7 hgd
          clear hlam e7 T7 hgd
          clear F6 HP6 hlf6 hse6
          refine ⟨_, rfl, p, dx, _, rfl, HP7.ins, hf_no _ _ _ _ (by decide +kernel) (by decide +kernel) (by decide +kernel) (by decide +kernel) (by decide +kernel), _, rfl, _, rfl, p, dx, secs, cars, st, L, hist, cl, dd, hl, pl, tick, rfl, HP7, hpl', by omega, k0, k1, by omega, ?_⟩
          have fl : ∀ w ∈ [V.str "see", V.int ((pl : Nat) : Int), V.int tick], FlOk w := fun w hw => by
            rcases List.mem_cons.mp hw with rfl | hw
            · exact .s strOk_see
            · rcases List.mem_cons.mp hw with rfl | hw
              · exact .i _
              · rw [List.mem_singleton.mp hw]
                exact .i _
          by_cases ge : L.filter (fun k => decide (tz secs cars st pl k = tick)) = []
          · refine .inl ⟨ge, fun H9 s9 => ⟨rfl, rfl, fun H10 wp s10 hwp => ?_⟩⟩
            have s0 := s9.trans s10
            refine ⟨_, rfl, _, rfl, by show 3 ≤ sizeLine; decide, fun on hon => ⟨_, _, rfl, ?_⟩⟩
            have s11 := sameNew hon (.tup [V.str "see", V.int ((pl : Nat) : Int), V.int tick])
            have s1 := s0.trans s11
            exact done _ _ ⟨gd, on, .ref wp, _, _, _, _, _, _, _, _, _, _, _, rfl, F7.same s1, s1 _ _ hlf7, hse7.same s1, _, _, s1 _ _ hgd7, upd_same, fl, Nat.le_trans (List.length_filter_le _ _) few, .inl ⟨ge, wp, cl, dd, hl, rfl, s11 _ _ hwp, HP7.ext (ExtN.same s1)⟩⟩
          · refine .inr ⟨ge, fun H9 cl2 hl2 kp HP9 => ?_⟩
            have kg := Kg.kp HP7.ins kp
            have F9 := F7.kp HP7.ins kp
            refine ⟨_, rfl, _, rfl, by show 3 ≤ sizeLine; decide, fun on hon => ⟨_, _, rfl, ?_⟩⟩
            have s1 := sameNew hon (.tup [V.str "see", V.int ((pl : Nat) : Int), V.int tick])
            exact done _ _ ⟨gd, on, .non, _, _, _, _, _, _, _, _, _, _, _, rfl, F9.same s1, s1 _ _ (IntsAt.nk hlf7 kg.nk), (TupsAt.nk hse7 kg.nk).same s1, _, _, s1 _ _ (IntsAt.nk hgd7 kg.nk), upd_same, fl, Nat.le_trans (List.length_filter_le _ _) few, .inr ⟨ge, rfl, cl2, dd, hl2, HP9.ext (ExtN.same s1)⟩⟩
      clear F1 HP1 hlf1 hse1
      rintro σ2 H2 ⟨gd, on, wv, v11, v13, v14, v18, v19, v20, v21, v22, v23, v24, v25, rfl, T2⟩
      -- the word is the one that is due
      refine seq_cut (fun σ' H' => σ' = [some (.ref sc), some (.ref r), some (.ref p0), some (.ref l), some (.ref a), some (.int ((st : Nat) : Int)), some (.ref lf), some (.ref se), some (.ref D), some (.ref p), some (.int ((tr : Nat) : Int)), v11, some (.int ((pl : Nat) : Int)), v13, v14, some (.ref gd), some wv, some (.ref on), v18, v19, v20, v21, v22, v23, v24, v25] ∧ Turned K CH C T H' r sc l a D p dx ns secs cars st L hist lf se gd on wv) (fun nx done => ?_) ?_
      · obtain ⟨F2, hlf2, hse2, L', ob, hgd, hob, fl, few, cs⟩ := T2
        refine ⟨_, rfl, _, rfl, by show 0 ≤ sizeLine; decide, fun e he => ?_⟩
        have s3 := sameNew he (.lst [])
        refine ⟨_, .list [], dp_nats (s3 _ _ hgd), .lst (SqL.of upd_same) .nil, (shp_intsD _).ok (by decide), rfl, _, rfl, ?_⟩
        rw [nats_nil]
        rcases cs with ⟨el, wp, cl, dd, hl, ew, hwp, HP2⟩ | ⟨el, ew, cl, dd, hl, HP2⟩
        · rw [decide_eq_true el]
          refine iteF ⟨by show 1 ≤ sizeLine; decide, fun q hq => ?_⟩
          have s4 := sameNew hq (.tup [V.str "contradiction"])
          have s34 := s3.trans s4
          subst ew
          refine ⟨.tuple [.str "contradiction"], .tuple [.str "contradiction"], .tup (SqT.of (s34 _ _ hwp)) (.cons (.str _) .nil), .tup (SqT.of upd_same) (.cons (.str _) .nil), by decide +kernel, by decide +kernel, _, rfl, ?_⟩
          rw [show (!PyData.eqv (.tuple [.str "contradiction"]) (.tuple [.str "contradiction"])) = false by decide +kernel]
          exact iteF (done _ _ ⟨rfl, F2.same s34, s34 _ _ hlf2, hse2.same s34, L', ob, s34 _ _ hgd, s34 _ _ hob, fl, few, .inl ⟨el, wp, cl, dd, hl, rfl, s34 _ _ hwp, HP2.ext (ExtN.same s34)⟩⟩)
        · rw [decide_eq_false el]
          subst ew
          refine iteT ⟨.none, .none, .non, .non, rfl, rfl, _, rfl, ?_⟩
          exact iteF (done _ _ ⟨rfl, F2.same s3, s3 _ _ hlf2, hse2.same s3, L', ob, s3 _ _ hgd, s3 _ _ hob, fl, few, .inr ⟨el, rfl, cl, dd, hl, HP2.ext (ExtN.same s3)⟩⟩)
      clear T2
      rintro σ3 H3 ⟨rfl, F3, hlf3, hse3, L', ob, hgd, hob, fl, few, cs⟩
      -- what is kept
      refine seq_cut (fun σ' H' => ∃ (L : List Nat) (hist : List (List V)) (lf se cl dd hl : Addr) (v11 v12 v13 v14 v15 v16 v17 v18 v19 v20 v21 v22 v23 v24 v25 : Option V), σ' = [some (.ref sc), some (.ref r), some (.ref p0), some (.ref l), some (.ref a), some (.int ((st : Nat) : Int)), some (.ref lf), some (.ref se), some (.ref D), some (.ref p), some (.int ((tr : Nat) : Int)), v11, v12, v13, v14, v15, v16, v17, v18, v19, v20, v21, v22, v23, v24, v25] ∧ LawZ K T H' r sc l a D ns secs cars st ∧ HPat CH C H' p dx secs cars st L hist cl dd hl ∧ H' lf = some (.lst (L.map fun k => V.int ((k : Nat) : Int))) ∧ TupsAt H' se hist ∧ hist.length ≤ i + 1 ∧ ∀ o ∈ hist, ∀ v ∈ o, FlOk v) (fun nx done => ?_) ?_
      · refine ⟨_, rfl, _, rfl, ?_⟩
        rcases cs with ⟨el, wp, cl, dd, hl, ew, hwp, HP3⟩ | ⟨el, ew, cl, dd, hl, HP3⟩
        · subst ew
          rw [decide_eq_false (fun z => nomatch z)]
          exact iteF (done _ _ ⟨L, hist, lf, se, cl, dd, hl, _, _, _, _, _, _, _, _, _, _, _, _, _, _, _, rfl, F3, HP3, hlf3, hse3, by omega, hfl⟩)
        · subst ew
          rw [decide_eq_true rfl]
          obtain ⟨xs, x1, x2, x3⟩ := tups_app hse3 hob
          refine iteT ⟨_, rfl, _, rfl, _, rfl, by show 1 ≤ sizeLine; decide, fun q hq => ?_⟩
          have s4 := sameNew hq (.lst [V.ref on])
          refine ⟨se, q, xs, [.ref on], rfl, rfl, s4 _ _ x1, upd_same, Nat.le_trans (m := 1000) (by rw [x2]; show hist.length + 1 ≤ 1000; omega) (by decide), fun q2 hq2 => ?_⟩
          have s5 := sameNew hq2 (.lst (xs ++ [V.ref on]))
          refine ⟨by show 2 ≤ sizeLine; decide, fun t ht => ?_⟩
          have s6 := sameNew ht (.tup [V.ref gd, V.ref q2])
          have s46 := s4.trans (s5.trans s6)
          refine ⟨t, _, rfl, SqT.of upd_same, rfl, _, _, rfl, _, _, rfl, rfl, ?_⟩
          refine done _ _ ⟨L', hist ++ [ob], gd, q2, cl, dd, hl, _, _, _, _, _, _, _, _, _, _, _, _, _, _, _, rfl, F3.same s46, HP3.ext (ExtN.same s46), s46 _ _ hgd, x3 _ _ s46 (s6 _ _ upd_same), by rw [List.length_append]; show hist.length + 1 ≤ i + 1; omega, fun o ho => ?_⟩
          rcases List.mem_append.mp ho with ho | ho
          · exact hfl o ho
          · rw [List.mem_singleton.mp ho]
            exact fl
      clear cs hgd hob fl few hlf3 hse3 F3 hh hfl inO ndO okN okO smallO
      clear L hist lf se cl dd hl
      rintro σ4 H4 ⟨L, hist, lf, se, cl, dd, hl, v11, v12, v13, v14, v15, v16, v17, v18, v19, v20, v21, v22, v23, v24, v25, rfl, F4, HP4, hlf4, hse4, hh, hfl⟩
      -- what the object tells
      refine ⟨_, rfl, p, dx, _, rfl, HP4.ins, p, dx, secs, cars, st, L, hist, cl, dd, hl, rfl, HP4, fun cn hcn => ?_⟩
      have s5 := sameNew hcn (.lst (L.map fun k => V.int ((k : Nat) : Int)))
      refine ⟨_, rfl, _, _, dp_nats upd_same, dp_nats (s5 _ _ hlf4), (shp_intsD _).ok (by decide), (shp_intsD _).ok (by decide), _, rfl, ?_⟩
      rw [(shp_intsD _).same]
      refine iteF ?_
      refine ⟨_, rfl, p, dx, _, rfl, s5 _ _ HP4.ins, p, dx, secs, cars, st, L, hist, cl, dd, hl, rfl, HP4.ext (ExtN.same s5), fun H6 hn s6 nhn hhn => ?_⟩
      have s56 := s5.trans s6
      refine ⟨_, rfl, _, _, dp_hist hfl hhn, dp_hist hfl (hse4.same s56), (shp_histD hfl).ok (by decide), (shp_histD hfl).ok (by decide), _, rfl, ?_⟩
      rw [(shp_histD hfl).same]
      refine iteF ?_
      exact ⟨L, hist, lf, se, cl, dd, hl, none, _, _, _, _, _, _, _, _, _, _, _, _, _, _, _, rfl, F4.same s56, HP4.ext (ExtN.same s56), s56 _ _ hlf4, hse4.same s56, hh, hfl⟩
    · rintro σ H ⟨L, hist, lf, se, cl, dd, hl, w10, w11, w12, w13, w14, w15, w16, w17, w18, w19, w20, w21, w22, w23, w24, w25, rfl, F, HP, hlf, hse, hh, hfl⟩
      have en : (((secs.length : Nat) : Int) + 1).toNat = secs.length + 1 := by omega
      have pc := HP.pc
      have few := HP.few
      obtain ⟨xs, x1, x2, x3⟩ := id F.rn
      have hxs : (xs.map V.ref).length = secs.length := by rw [List.length_map, x2]
      -- the law's ticks
      refine ⟨_, rfl, l, _, rfl, .inl (SqL.of x1), _, _, rfl, rfl, _, rfl, by rw [hxs]; omega, by rw [hxs]; omega, fun B hB => ?_⟩
      rw [hxs, en]
      refine lc_it walk_range (fun i H1 => Lm H B H1 (tksP secs cars st L i)) (Lm.nil hB) (fun _ _ _ _ => True.intro) ?_ ?_
      · rintro i y Hz H1 hi m ⟨e, hy⟩
        have hy : y = V.int ((i : Nat) : Int) := by
          rw [hy]
          show V.int (0 + ((i : Nat) : Int)) = _
          rw [Int.zero_add]
        subst e hy
        refine ⟨rfl, yes_of (ticks_rd (F.dl.nk (Kg.same m.1).nk) (m.1 _ _ hlf) pc few (by omega) rfl (fun _ => rfl) (fun _ => rfl) (fun _ => rfl) (fun _ => rfl) fun H2 q s2 nq hq => ?_)⟩
        obtain ⟨zs, h1, h2, h3⟩ := m.snoc hB s2 hq (m.ne nq)
        exact ⟨zs, h1, by rw [h2, tksP_len]; exact small1000 (by omega), by rw [tksP_succ]; exact h3⟩
      rintro H1 m1
      have t1 := m1.lists
      have F1 := F.same m1.1
      have HP1 := HP.ext (ExtN.same m1.1)
      have x1 := m1.1 _ _ x1
      clear F HP hlf hse hB m1
      -- the object's
      refine ⟨_, rfl, l, _, rfl, .inl (SqL.of x1), _, _, rfl, rfl, _, rfl, by rw [hxs]; omega, by rw [hxs]; omega, fun B2 hB2 => ?_⟩
      rw [hxs, en]
      refine lc_it walk_range (fun i H2 => Lm H1 B2 H2 (tksP secs cars st L i)) (Lm.nil hB2) (fun _ _ _ _ => True.intro) ?_ ?_
      · rintro i y Hz H2 hi m ⟨e, hy⟩
        have hy : y = V.int ((i : Nat) : Int) := by
          rw [hy]
          show V.int (0 + ((i : Nat) : Int)) = _
          rw [Int.zero_add]
        subst e hy
        have HP2 := HP1.ext (ExtN.same m.1)
        refine ⟨rfl, yes_of ⟨_, rfl, p, dx, _, rfl, HP2.ins, hf_no _ _ _ _ (by decide +kernel) (by decide +kernel) (by decide +kernel) (by decide +kernel) (by decide +kernel), _, rfl, p, dx, secs, cars, st, L, hist, cl, dd, hl, i, rfl, HP2, by omega, by omega, fun H3 q s3 nq hq => ?_⟩⟩
        obtain ⟨zs, h1, h2, h3⟩ := m.snoc hB2 s3 hq (m.ne nq)
        exact ⟨zs, h1, by rw [h2, tksP_len]; exact small1000 (by omega), by rw [tksP_succ]; exact h3⟩
      rintro H2 m2
      refine ⟨_, rfl, _, _, dp_lists m2.lists, dp_lists (t1.same m2.1), (shp_listsD _).ok (by decide), (shp_listsD _).ok (by decide), _, rfl, ?_⟩
      rw [(shp_listsD _).same]
      refine iteF ?_
      have t2 := t1.same m2.1
      have HP2 := HP1.ext (ExtN.same m2.1)
      clear t1 HP1 m2 hB2 x1 F1
      -- how many, place by place
      obtain ⟨as, a1, a2, a3⟩ := t2
      rw [tksP_len] at a2
      refine ⟨_, rfl, B, rfl, ⟨_, SqL.of a1⟩, fun B3 hB3 => ?_⟩
      refine lc_it walk_list (fun i H3 => Same H2 H3 ∧ H3 B3 = some (.lst (((List.range i).map fun i => ((tkA secs cars st i L).length : Int)).map V.int))) ⟨sameNew hB3 _, upd_same⟩ (fun i H3 _ ⟨k1, _⟩ => SqL.of (k1 _ _ a1)) ?_ ?_
      · rintro i y Hz H3 hi ⟨s3, b3⟩ ⟨e, hy⟩
        subst e
        rw [List.length_map] at hi
        obtain ⟨b, hb⟩ : ∃ b, as[i]? = some b := ⟨_, List.getElem?_eq_getElem hi⟩
        have hy : y = V.ref b := by
          have : (as.map V.ref)[i]? = some (V.ref b) := by rw [List.getElem?_map, hb]; rfl
          exact Option.some.inj (hy.symm.trans this)
        subst hy
        have hl2 := s3 _ _ (a3 i b (tkA secs cars st i L) hb (by unfold tksP; rw [List.getElem?_map, List.getElem?_range (by omega)]; rfl))
        refine ⟨rfl, yes_of ⟨_, rfl, b, _, rfl, .inl (SqL.of hl2), _, b3, ?_, fun c o e2 => by rw [upd_ne (ne_of_none e2 hB3)]; exact s3 _ _ e2, ?_⟩⟩
        · rw [List.length_map, List.length_map, List.length_range]
          exact small1000 (by omega)
        · rw [upd_same, List.length_map, List.range_succ, List.map_append, List.map_append]
          rfl
      rintro H3 ⟨s3, b3⟩
      rw [List.length_map, a2] at b3
      have b3 : H3 B3 = some (.lst ((szL secs cars st L).map V.int)) := b3
      have HP3 := HP2.ext (ExtN.same s3)
      refine ⟨_, rfl, p, dx, _, rfl, HP3.ins, hf_no _ _ _ _ (by decide +kernel) (by decide +kernel) (by decide +kernel) (by decide +kernel) (by decide +kernel), p, dx, secs, cars, st, L, hist, cl, dd, hl, rfl, HP3, by omega, fun H4 j s4 hj => ?_⟩
      have b4 := s4 _ _ b3
      refine ⟨_, rfl, .inl ⟨rfl, _, SqL.of b4⟩, _, rfl, B3, _, rfl, SqL.of b4, by unfold szL; rw [List.length_map, List.length_range]; omega, fun m hm hmax => ?_⟩
      show rIndex K (.ref B3) [.int m] H4 fun y H5 => rEq (V.int ((j : Nat) : Int)) y H5 Q
      refine best_rd b4 hm hmax fun j2 hj2 => ?_
      dsimp only [rEq]
      rw [best_uniq hj hj2, decide_eq_true rfl]
      exact ⟨rfl, k H4⟩
end
end Sl

set_option Elab.async false
set_option linter.all false
/-! facts of own errors' classes from what k_is answers -/
namespace OwnR
open PySem PySem.Spec L2
section
variable {K : PySem.W.Frag} {C D : Addr} {b : Bool}
theorem kit_tyE {T : String} (h1 : PySem.W.kitMeta T = true) (h : PySem.W.subIn K (.ref C) (.type T) = some b) : PySem.W.kitOne K (.ref C) (.type T) = some b := by
  show (if (Value.ref C == Value.type T) = true then some true else PySem.W.kitCls K (.ref C) (.type T)) = some b
  have e : (Value.ref C == Value.type T) = false := by
    refine Bool.eq_false_iff.mpr fun q => ?_
    have := beq_iff_eq.mp q
    cases this
  rw [e]
  show (if PySem.W.kitMeta T = true then PySem.W.subIn K (.ref C) (.type T) else none) = some b
  rw [if_pos h1, h]
theorem kit_refE (hs : PySem.W.subIn K (.ref C) (.ref C) = some true) (c : PySem.W.isClsIn K D = true) (t : PySem.W.typeIn K (.ref D) = some (.type "type")) (h : PySem.W.subIn K (.ref C) (.ref D) = some b) : PySem.W.kitOne K (.ref C) (.ref D) = some b := by
  show (if (Value.ref C == Value.ref D) = true then some true else PySem.W.kitCls K (.ref C) (.ref D)) = some b
  by_cases q : (Value.ref C == Value.ref D) = true
  · rw [if_pos q]
    have e := Value.ref.inj (beq_iff_eq.mp q)
    subst e
    rw [hs] at h
    exact h
  · rw [if_neg q]
    have c2 : (PySem.W.clsIn K D).isSome = true := c
    have e2 : ((PySem.W.clsIn K D).isSome && PySem.W.typeIn K (.ref D) == some (.type "type")) = true := by rw [c2, t] <;> rfl
    show (if ((PySem.W.clsIn K D).isSome && PySem.W.typeIn K (.ref D) == some (.type "type")) = true then PySem.W.subIn K (.ref C) (.ref D) else none) = some b
    rw [if_pos e2, h]
end
end OwnR

set_option Elab.async false
set_option linter.all false
set_option maxRecDepth 100000
set_option maxHeartbeats 4000000
namespace Sl
open PySem PySem.Spec L2 OwnR LamX
theorem tabS0 {H : Hp} {P : Addr} {q : Str} (h : H P = some (.tbl #[])) : TabS H P q := ⟨#[], h, by first | exact trivial | simp [PySem.W.TriplesOk] | decide, fun pos cv e => by first | cases e | simp [codeAmong] at e⟩
theorem all_mk {l : PySem.W.OpenLaw} {w : World} {K : PySem.W.Frag} {h : Heap} {mg : Str → Option Value} {fa C CR : Addr} (X : K.In h) (G : h.Ns mainGlobals mg) (hfa : mg "law" = some (.ref fa))
    {fin : Addr} {odin anin : Option Addr} {slin : Array (Option Value)} {ocin kVin dcin pmin ctin : Value} {cdin : Value}
    {fnm : Addr} {odnm annm : Option Addr} {slnm : Array (Option Value)} {ocnm kVnm dcnm pmnm ctnm : Value} {cdnm : Value}
    {fic : Addr} {odic anic : Option Addr} {slic : Array (Option Value)} {ocic kVic dcic pmic ctic : Value} {cdic : Value}
    {fcc : Addr} {odcc ancc : Option Addr} {slcc : Array (Option Value)} {occc kVcc dccc pmcc ctcc : Value} {cdcc : Value}
    {fcw : Addr} {odcw ancw : Option Addr} {slcw : Array (Option Value)} {occw kVcw dccw pmcw ctcw : Value} {cdcw : Value}
    {ccio Pio : Addr}
    {fio : Addr} {odio anio : Option Addr} {slio : Array (Option Value)} {ocio kVio dcio pmio ctio : Value}
    {ffo : Addr} {odfo anfo : Option Addr} {slfo : Array (Option Value)} {ocfo kVfo dcfo pmfo ctfo : Value} {cdfo : Value}
    {fdv : Addr} {oddv andv : Option Addr} {sldv : Array (Option Value)} {ocdv kVdv dcdv pmdv ctdv : Value} {cddv : Value}
    {fis : Addr} {odis anis : Option Addr} {slis : Array (Option Value)} {ocis kVis dcis pmis ctis : Value} {cdis : Value}
    {fuo : Addr} {oduo anuo : Option Addr} {sluo : Array (Option Value)} {ocuo kVuo dcuo pmuo ctuo : Value} {cduo : Value}
    {fru : Addr} {odru anru : Option Addr} {slru : Array (Option Value)} {ocru kVru dcru pmru ctru : Value} {cdru : Value}
    {far : Addr} {odar anar : Option Addr} {slar : Array (Option Value)} {ocar kVar dcar pmar ctar : Value} {cdar : Value}
    {fta : Addr} {odta anta : Option Addr} {slta : Array (Option Value)} {octa kVta dcta pmta ctta : Value} {cdta : Value}
    {fuu : Addr} {oduu anuu : Option Addr} {sluu : Array (Option Value)} {ocuu kVuu dcuu pmuu ctuu : Value} {cduu : Value}
    {fse : Addr} {odse anse : Option Addr} {slse : Array (Option Value)} {ocse kVse dcse pmse ctse : Value} {cdse : Value}
    {fca : Addr} {odca anca : Option Addr} {slca : Array (Option Value)} {occa kVca dcca pmca ctca : Value} {cdca : Value}
    {ccdr Pdr : Addr}
    {fdr : Addr} {oddr andr : Option Addr} {sldr : Array (Option Value)} {ocdr kVdr dcdr pmdr ctdr : Value}
    {fdw : Addr} {oddw andw : Option Addr} {sldw : Array (Option Value)} {ocdw kVdw dcdw pmdw ctdw : Value} {cddw : Value}
    {fto : Addr} {odto anto : Option Addr} {slto : Array (Option Value)} {octo kVto dcto pmto ctto : Value} {cdto : Value}
    {ccla Pla : Addr}
    {fla : Addr} {odla anla : Option Addr} {slla : Array (Option Value)} {ocla kVla dcla pmla ctla : Value}
    {fDi : Addr} {odDi anDi : Option Addr} {slDi : Array (Option Value)} {ocDi kVDi dcDi pmDi ctDi : Value} {cdDi : Value}
    {fDc : Addr} {odDc anDc : Option Addr} {slDc : Array (Option Value)} {ocDc kVDc dcDc pmDc ctDc : Value} {cdDc : Value}
    {fDp : Addr} {odDp anDp : Option Addr} {slDp : Array (Option Value)} {ocDp kVDp dcDp pmDp ctDp : Value} {cdDp : Value}
    {fDg : Addr} {odDg anDg : Option Addr} {slDg : Array (Option Value)} {ocDg kVDg dcDg pmDg ctDg : Value} {cdDg : Value}
    {fDh : Addr} {odDh anDh : Option Addr} {slDh : Array (Option Value)} {ocDh kVDh dcDh pmDh ctDh : Value} {cdDh : Value}
    {fDo : Addr} {odDo anDo : Option Addr} {slDo : Array (Option Value)} {ocDo kVDo dcDo pmDo ctDo : Value} {cdDo : Value}
    {fRi : Addr} {odRi anRi : Option Addr} {slRi : Array (Option Value)} {ocRi kVRi dcRi pmRi ctRi : Value} {cdRi : Value}
    {fHi : Addr} {odHi anHi : Option Addr} {slHi : Array (Option Value)} {ocHi kVHi dcHi pmHi ctHi : Value} {cdHi : Value}
    {fHk : Addr} {odHk anHk : Option Addr} {slHk : Array (Option Value)} {ocHk kVHk dcHk pmHk ctHk : Value} {cdHk : Value}
    {fHc : Addr} {odHc anHc : Option Addr} {slHc : Array (Option Value)} {ocHc kVHc dcHc pmHc ctHc : Value} {cdHc : Value}
    {fHs : Addr} {odHs anHs : Option Addr} {slHs : Array (Option Value)} {ocHs kVHs dcHs pmHs ctHs : Value} {cdHs : Value}
    {fHo : Addr} {odHo anHo : Option Addr} {slHo : Array (Option Value)} {ocHo kVHo dcHo pmHo ctHo : Value} {cdHo : Value}
    {fHp : Addr} {odHp anHp : Option Addr} {slHp : Array (Option Value)} {ocHp kVHp dcHp pmHp ctHp : Value} {cdHp : Value}
    {fHb : Addr} {odHb anHb : Option Addr} {slHb : Array (Option Value)} {ocHb kVHb dcHb pmHb ctHb : Value} {cdHb : Value}
    {CH : Addr}
    {pHd : Addr} {rHdL : List Value}
    {fHd : Addr} {odHd anHd : Option Addr} {slHd : Array (Option Value)} {ocHd kVHd dcHd pmHd ctHd : Value} {cdHd : Value}
    {pHh : Addr} {rHhL : List Value}
    {fHh : Addr} {odHh anHh : Option Addr} {slHh : Array (Option Value)} {ocHh kVHh dcHh pmHh ctHh : Value} {cdHh : Value}
    {pO : Addr} {mc : Value} {rO : List Value}
    {fRo : Addr} {odRo anRo : Option Addr} {slRo : Array (Option Value)} {ocRo kVRo dcRo pmRo ctRo : Value} {cdRo : Value}
    {pRs : Addr} {rRsL : List Value}
    {fRs : Addr} {odRs anRs : Option Addr} {slRs : Array (Option Value)} {ocRs kVRs dcRs pmRs ctRs : Value} {cdRs : Value}
    {CE c0 c1 c2 c3 c4 c5 : Addr}
    {t0 t1 t2 t3 t4 t5 t6 : Tok} {lp kp : Addr}
    (aC : PySem.W.nsIn K mainGlobals "Drive" = some (some (.ref C)))
    (aR : PySem.W.nsIn K mainGlobals "Road" = some (some (.ref CR)))
    (aX3 : PySem.W.nsIn K mainGlobals "HiddenPace" = some (some (.ref CH)))
    (ain : PySem.W.nsIn K mainGlobals "is_number" = some (some (.ref fin)))
    (lin : K.lookup fin = some ⟨ocin, odin, .func (PySem.W.fnOf "is_number" "is_number" (defArgs sIsNumber) (defBody sIsNumber) (defScope sIsNumber) .none kVin dcin pmin anin cdin ctin), slin⟩)
    (cin : PySem.W.codeIn K cdin "is_number" = true)
    (kin : PySem.W.keepIn K (.ref fin) = true)
    (anm : PySem.W.nsIn K mainGlobals "is_name" = some (some (.ref fnm)))
    (lnm : K.lookup fnm = some ⟨ocnm, odnm, .func (PySem.W.fnOf "is_name" "is_name" (defArgs sIsName) (defBody sIsName) (defScope sIsName) .none kVnm dcnm pmnm annm cdnm ctnm), slnm⟩)
    (cnm : PySem.W.codeIn K cdnm "is_name" = true)
    (knm : PySem.W.keepIn K (.ref fnm) = true)
    (aic : PySem.W.nsIn K mainGlobals "is_car" = some (some (.ref fic)))
    (lic : K.lookup fic = some ⟨ocic, odic, .func (PySem.W.fnOf "is_car" "is_car" (defArgs sIsCar) (defBody sIsCar) (defScope sIsCar) .none kVic dcic pmic anic cdic ctic), slic⟩)
    (cic : PySem.W.codeIn K cdic "is_car" = true)
    (kic : PySem.W.keepIn K (.ref fic) = true)
    (acc : PySem.W.nsIn K mainGlobals "check_cars" = some (some (.ref fcc)))
    (lcc : K.lookup fcc = some ⟨occc, odcc, .func (PySem.W.fnOf "check_cars" "check_cars" (defArgs sCheckCars) (defBody sCheckCars) (defScope sCheckCars) .none kVcc dccc pmcc ancc cdcc ctcc), slcc⟩)
    (ccc : PySem.W.codeIn K cdcc "check_cars" = true)
    (kcc : PySem.W.keepIn K (.ref fcc) = true)
    (acw : PySem.W.nsIn K mainGlobals "check_new_name" = some (some (.ref fcw)))
    (lcw : K.lookup fcw = some ⟨occw, odcw, .func (PySem.W.fnOf "check_new_name" "check_new_name" (defArgs sCheckNewName) (defBody sCheckNewName) (defScope sCheckNewName) .none kVcw dccw pmcw ancw cdcw ctcw), slcw⟩)
    (ccw : PySem.W.codeIn K cdcw "check_new_name" = true)
    (kcw : PySem.W.keepIn K (.ref fcw) = true)
    (aio : PySem.W.nsIn K mainGlobals "_in_order" = some (some (.ref fio)))
    (lio : K.lookup fio = some ⟨ocio, odio, .func (PySem.W.fnOf "_in_order" "_in_order" (defArgs sInOrder) (defBody sInOrder) (defScope sInOrder) .none kVio dcio pmio anio (.ref ccio) ctio), slio⟩)
    (cio : PySem.W.codeIn K (.ref ccio) "_in_order" = true)
    (kio : PySem.W.keepIn K (.ref fio) = true)
    (hio : PySem.W.codeHdIn K ccio Pio = true)
    (nio : K.lookup Pio = none)
    (afo : PySem.W.nsIn K mainGlobals "_follow" = some (some (.ref ffo)))
    (lfo : K.lookup ffo = some ⟨ocfo, odfo, .func (PySem.W.fnOf "_follow" "_follow" (defArgs sFollow) (defBody sFollow) (defScope sFollow) .none kVfo dcfo pmfo anfo cdfo ctfo), slfo⟩)
    (cfo : PySem.W.codeIn K cdfo "_follow" = true)
    (kfo : PySem.W.keepIn K (.ref ffo) = true)
    (adv : PySem.W.nsIn K mainGlobals "drive_all" = some (some (.ref fdv)))
    (ldv : K.lookup fdv = some ⟨ocdv, oddv, .func (PySem.W.fnOf "drive_all" "drive_all" (defArgs sDriveAll) (defBody sDriveAll) (defScope sDriveAll) .none kVdv dcdv pmdv andv cddv ctdv), sldv⟩)
    (cdv : PySem.W.codeIn K cddv "drive_all" = true)
    (kdv : PySem.W.keepIn K (.ref fdv) = true)
    (ais : PySem.W.nsIn K mainGlobals "_is_section" = some (some (.ref fis)))
    (lis : K.lookup fis = some ⟨ocis, odis, .func (PySem.W.fnOf "_is_section" "_is_section" (defArgs sIsSection) (defBody sIsSection) (defScope sIsSection) .none kVis dcis pmis anis cdis ctis), slis⟩)
    (cis : PySem.W.codeIn K cdis "_is_section" = true)
    (kis : PySem.W.keepIn K (.ref fis) = true)
    (auo : PySem.W.nsIn K mainGlobals "_units_of" = some (some (.ref fuo)))
    (luo : K.lookup fuo = some ⟨ocuo, oduo, .func (PySem.W.fnOf "_units_of" "_units_of" (defArgs sUnitsOf) (defBody sUnitsOf) (defScope sUnitsOf) .none kVuo dcuo pmuo anuo cduo ctuo), sluo⟩)
    (cuo : PySem.W.codeIn K cduo "_units_of" = true)
    (kuo : PySem.W.keepIn K (.ref fuo) = true)
    (aru : PySem.W.nsIn K mainGlobals "_runs" = some (some (.ref fru)))
    (lru : K.lookup fru = some ⟨ocru, odru, .func (PySem.W.fnOf "_runs" "_runs" (defArgs sRuns) (defBody sRuns) (defScope sRuns) .none kVru dcru pmru anru cdru ctru), slru⟩)
    (cru : PySem.W.codeIn K cdru "_runs" = true)
    (kru : PySem.W.keepIn K (.ref fru) = true)
    (aar : PySem.W.nsIn K mainGlobals "_are_in_order" = some (some (.ref far)))
    (lar : K.lookup far = some ⟨ocar, odar, .func (PySem.W.fnOf "_are_in_order" "_are_in_order" (defArgs sAreInOrder) (defBody sAreInOrder) (defScope sAreInOrder) .none kVar dcar pmar anar cdar ctar), slar⟩)
    (car : PySem.W.codeIn K cdar "_are_in_order" = true)
    (kar : PySem.W.keepIn K (.ref far) = true)
    (ata : PySem.W.nsIn K mainGlobals "_law_taken" = some (some (.ref fta)))
    (lta : K.lookup fta = some ⟨octa, odta, .func (PySem.W.fnOf "_law_taken" "_law_taken" (defArgs sTaken) (defBody sTaken) (defScope sTaken) .none kVta dcta pmta anta cdta ctta), slta⟩)
    (cta : PySem.W.codeIn K cdta "_law_taken" = true)
    (kta : PySem.W.keepIn K (.ref fta) = true)
    (auu : PySem.W.nsIn K mainGlobals "_law_units" = some (some (.ref fuu)))
    (luu : K.lookup fuu = some ⟨ocuu, oduu, .func (PySem.W.fnOf "_law_units" "_law_units" (defArgs sUnits) (defBody sUnits) (defScope sUnits) .none kVuu dcuu pmuu anuu cduu ctuu), sluu⟩)
    (cuu : PySem.W.codeIn K cduu "_law_units" = true)
    (kuu : PySem.W.keepIn K (.ref fuu) = true)
    (ase : PySem.W.nsIn K mainGlobals "_law_sections" = some (some (.ref fse)))
    (lse : K.lookup fse = some ⟨ocse, odse, .func (PySem.W.fnOf "_law_sections" "_law_sections" (defArgs sSections) (defBody sSections) (defScope sSections) .none kVse dcse pmse anse cdse ctse), slse⟩)
    (cse : PySem.W.codeIn K cdse "_law_sections" = true)
    (kse : PySem.W.keepIn K (.ref fse) = true)
    (aca : PySem.W.nsIn K mainGlobals "_law_cars" = some (some (.ref fca)))
    (lca : K.lookup fca = some ⟨occa, odca, .func (PySem.W.fnOf "_law_cars" "_law_cars" (defArgs sCars) (defBody sCars) (defScope sCars) .none kVca dcca pmca anca cdca ctca), slca⟩)
    (cca : PySem.W.codeIn K cdca "_law_cars" = true)
    (kca : PySem.W.keepIn K (.ref fca) = true)
    (adr : PySem.W.nsIn K mainGlobals "_law_driven" = some (some (.ref fdr)))
    (ldr : K.lookup fdr = some ⟨ocdr, oddr, .func (PySem.W.fnOf "_law_driven" "_law_driven" (defArgs sDriven) (defBody sDriven) (defScope sDriven) .none kVdr dcdr pmdr andr (.ref ccdr) ctdr), sldr⟩)
    (cdr : PySem.W.codeIn K (.ref ccdr) "_law_driven" = true)
    (kdr : PySem.W.keepIn K (.ref fdr) = true)
    (hdr : PySem.W.codeHdIn K ccdr Pdr = true)
    (ndr : K.lookup Pdr = none)
    (adw : PySem.W.nsIn K mainGlobals "_law_drawn" = some (some (.ref fdw)))
    (ldw : K.lookup fdw = some ⟨ocdw, oddw, .func (PySem.W.fnOf "_law_drawn" "_law_drawn" (defArgs sDrawn) (defBody sDrawn) (defScope sDrawn) .none kVdw dcdw pmdw andw cddw ctdw), sldw⟩)
    (cdw : PySem.W.codeIn K cddw "_law_drawn" = true)
    (kdw : PySem.W.keepIn K (.ref fdw) = true)
    (ato : PySem.W.nsIn K mainGlobals "_law_raised" = some (some (.ref fto)))
    (lto : K.lookup fto = some ⟨octo, odto, .func (PySem.W.fnOf "_law_raised" "_law_raised" (defArgs sRaised) (defBody sRaised) (defScope sRaised) .none kVto dcto pmto anto cdto ctto), slto⟩)
    (cto : PySem.W.codeIn K cdto "_law_raised" = true)
    (kto : PySem.W.keepIn K (.ref fto) = true)
    (ala : PySem.W.nsIn K mainGlobals "law" = some (some (.ref fla)))
    (lla : K.lookup fla = some ⟨ocla, odla, .func (PySem.W.fnOf "law" "law" (defArgs sLaw) (defBody sLaw) (defScope sLaw) .none kVla dcla pmla anla (.ref ccla) ctla), slla⟩)
    (cla : PySem.W.codeIn K (.ref ccla) "law" = true)
    (kla : PySem.W.keepIn K (.ref fla) = true)
    (hla : PySem.W.codeHdIn K ccla Pla = true)
    (nla : K.lookup Pla = none)
    (aDi : PySem.W.findIn K (.ref C) "__init__" = some (some (.ref fDi)))
    (iDi : PySem.W.isFn K (.ref fDi) = true)
    (lDi : K.lookup fDi = some ⟨ocDi, odDi, .func (PySem.W.fnOf "__init__" "Drive.__init__" (defArgs sDInit) (defBody sDInit) (defScope sDInit) .none kVDi dcDi pmDi anDi cdDi ctDi), slDi⟩)
    (cDi : PySem.W.codeIn K cdDi "Drive.__init__" = true)
    (kDi : PySem.W.keepIn K (.ref fDi) = true)
    (aDc : PySem.W.findIn K (.ref C) "_check_car" = some (some (.ref fDc)))
    (iDc : PySem.W.isFn K (.ref fDc) = true)
    (lDc : K.lookup fDc = some ⟨ocDc, odDc, .func (PySem.W.fnOf "_check_car" "Drive._check_car" (defArgs sDCheckCar) (defBody sDCheckCar) (defScope sDCheckCar) .none kVDc dcDc pmDc anDc cdDc ctDc), slDc⟩)
    (cDc : PySem.W.codeIn K cdDc "Drive._check_car" = true)
    (kDc : PySem.W.keepIn K (.ref fDc) = true)
    (aDp : PySem.W.findIn K (.ref C) "_check_place" = some (some (.ref fDp)))
    (iDp : PySem.W.isFn K (.ref fDp) = true)
    (lDp : K.lookup fDp = some ⟨ocDp, odDp, .func (PySem.W.fnOf "_check_place" "Drive._check_place" (defArgs sDCheckPlace) (defBody sDCheckPlace) (defScope sDCheckPlace) .none kVDp dcDp pmDp anDp cdDp ctDp), slDp⟩)
    (cDp : PySem.W.codeIn K cdDp "Drive._check_place" = true)
    (kDp : PySem.W.keepIn K (.ref fDp) = true)
    (aDg : PySem.W.findIn K (.ref C) "__getitem__" = some (some (.ref fDg)))
    (iDg : PySem.W.isFn K (.ref fDg) = true)
    (lDg : K.lookup fDg = some ⟨ocDg, odDg, .func (PySem.W.fnOf "__getitem__" "Drive.__getitem__" (defArgs sDGet) (defBody sDGet) (defScope sDGet) .none kVDg dcDg pmDg anDg cdDg ctDg), slDg⟩)
    (cDg : PySem.W.codeIn K cdDg "Drive.__getitem__" = true)
    (kDg : PySem.W.keepIn K (.ref fDg) = true)
    (aDh : PySem.W.findIn K (.ref C) "__contains__" = some (some (.ref fDh)))
    (iDh : PySem.W.isFn K (.ref fDh) = true)
    (lDh : K.lookup fDh = some ⟨ocDh, odDh, .func (PySem.W.fnOf "__contains__" "Drive.__contains__" (defArgs sDHas) (defBody sDHas) (defScope sDHas) .none kVDh dcDh pmDh anDh cdDh ctDh), slDh⟩)
    (cDh : PySem.W.codeIn K cdDh "Drive.__contains__" = true)
    (kDh : PySem.W.keepIn K (.ref fDh) = true)
    (aDo : PySem.W.findIn K (.ref C) "order_at" = some (some (.ref fDo)))
    (iDo : PySem.W.isFn K (.ref fDo) = true)
    (lDo : K.lookup fDo = some ⟨ocDo, odDo, .func (PySem.W.fnOf "order_at" "Drive.order_at" (defArgs sDOrderAt) (defBody sDOrderAt) (defScope sDOrderAt) .none kVDo dcDo pmDo anDo cdDo ctDo), slDo⟩)
    (cDo : PySem.W.codeIn K cdDo "Drive.order_at" = true)
    (kDo : PySem.W.keepIn K (.ref fDo) = true)
    (aRi : PySem.W.findIn K (.ref CR) "__init__" = some (some (.ref fRi)))
    (iRi : PySem.W.isFn K (.ref fRi) = true)
    (lRi : K.lookup fRi = some ⟨ocRi, odRi, .func (PySem.W.fnOf "__init__" "Road.__init__" (defArgs sRInit) (defBody sRInit) (defScope sRInit) .none kVRi dcRi pmRi anRi cdRi ctRi), slRi⟩)
    (cRi : PySem.W.codeIn K cdRi "Road.__init__" = true)
    (kRi : PySem.W.keepIn K (.ref fRi) = true)
    (aHi : PySem.W.findIn K (.ref CH) "__init__" = some (some (.ref fHi)))
    (iHi : PySem.W.isFn K (.ref fHi) = true)
    (lHi : K.lookup fHi = some ⟨ocHi, odHi, .func (PySem.W.fnOf "__init__" "HiddenPace.__init__" (defArgs sHiddenPaceInit) (defBody sHiddenPaceInit) (defScope sHiddenPaceInit) .none kVHi dcHi pmHi anHi cdHi ctHi), slHi⟩)
    (cHi : PySem.W.codeIn K cdHi "HiddenPace.__init__" = true)
    (kHi : PySem.W.keepIn K (.ref fHi) = true)
    (aHk : PySem.W.findIn K (.ref CH) "_check_place" = some (some (.ref fHk)))
    (iHk : PySem.W.isFn K (.ref fHk) = true)
    (lHk : K.lookup fHk = some ⟨ocHk, odHk, .func (PySem.W.fnOf "_check_place" "HiddenPace._check_place" (defArgs sHiddenPaceCheckPlace) (defBody sHiddenPaceCheckPlace) (defScope sHiddenPaceCheckPlace) .none kVHk dcHk pmHk anHk cdHk ctHk), slHk⟩)
    (cHk : PySem.W.codeIn K cdHk "HiddenPace._check_place" = true)
    (kHk : PySem.W.keepIn K (.ref fHk) = true)
    (aHc : PySem.W.findIn K (.ref CH) "_accept" = some (some (.ref fHc)))
    (iHc : PySem.W.isFn K (.ref fHc) = true)
    (lHc : K.lookup fHc = some ⟨ocHc, odHc, .func (PySem.W.fnOf "_accept" "HiddenPace._accept" (defArgs sHiddenPaceAccept) (defBody sHiddenPaceAccept) (defScope sHiddenPaceAccept) .none kVHc dcHc pmHc anHc cdHc ctHc), slHc⟩)
    (cHc : PySem.W.codeIn K cdHc "HiddenPace._accept" = true)
    (kHc : PySem.W.keepIn K (.ref fHc) = true)
    (aHs : PySem.W.findIn K (.ref CH) "see" = some (some (.ref fHs)))
    (iHs : PySem.W.isFn K (.ref fHs) = true)
    (lHs : K.lookup fHs = some ⟨ocHs, odHs, .func (PySem.W.fnOf "see" "HiddenPace.see" (defArgs sHiddenPaceSee) (defBody sHiddenPaceSee) (defScope sHiddenPaceSee) .none kVHs dcHs pmHs anHs cdHs ctHs), slHs⟩)
    (cHs : PySem.W.codeIn K cdHs "HiddenPace.see" = true)
    (kHs : PySem.W.keepIn K (.ref fHs) = true)
    (aHo : PySem.W.findIn K (.ref CH) "see_order" = some (some (.ref fHo)))
    (iHo : PySem.W.isFn K (.ref fHo) = true)
    (lHo : K.lookup fHo = some ⟨ocHo, odHo, .func (PySem.W.fnOf "see_order" "HiddenPace.see_order" (defArgs sHiddenPaceSeeOrder) (defBody sHiddenPaceSeeOrder) (defScope sHiddenPaceSeeOrder) .none kVHo dcHo pmHo anHo cdHo ctHo), slHo⟩)
    (cHo : PySem.W.codeIn K cdHo "HiddenPace.see_order" = true)
    (kHo : PySem.W.keepIn K (.ref fHo) = true)
    (aHp : PySem.W.findIn K (.ref CH) "possible_ticks" = some (some (.ref fHp)))
    (iHp : PySem.W.isFn K (.ref fHp) = true)
    (lHp : K.lookup fHp = some ⟨ocHp, odHp, .func (PySem.W.fnOf "possible_ticks" "HiddenPace.possible_ticks" (defArgs sHiddenPacePossibleTicks) (defBody sHiddenPacePossibleTicks) (defScope sHiddenPacePossibleTicks) .none kVHp dcHp pmHp anHp cdHp ctHp), slHp⟩)
    (cHp : PySem.W.codeIn K cdHp "HiddenPace.possible_ticks" = true)
    (kHp : PySem.W.keepIn K (.ref fHp) = true)
    (aHb : PySem.W.findIn K (.ref CH) "best_place" = some (some (.ref fHb)))
    (iHb : PySem.W.isFn K (.ref fHb) = true)
    (lHb : K.lookup fHb = some ⟨ocHb, odHb, .func (PySem.W.fnOf "best_place" "HiddenPace.best_place" (defArgs sHiddenPaceBestPlace) (defBody sHiddenPaceBestPlace) (defScope sHiddenPaceBestPlace) .none kVHb dcHb pmHb anHb cdHb ctHb), slHb⟩)
    (cHb : PySem.W.codeIn K cdHb "HiddenPace.best_place" = true)
    (kHb : PySem.W.keepIn K (.ref fHb) = true)
    (aHd : PySem.W.findIn K (.ref CH) "candidates" = some (some (.ref pHd)))
    (gHd : PySem.W.specialIn K (.ref pHd) "__get__" = some (some (.builtin "property.__get__")))
    (tHd : PySem.W.takesIn K (.ref pHd) = some true)
    (rHd : PySem.W.recIn K pHd "property" = some (.ref fHd :: rHdL))
    (lHd : K.lookup fHd = some ⟨ocHd, odHd, .func (PySem.W.fnOf "candidates" "HiddenPace.candidates" (defArgs sHiddenPaceCandidates) (defBody sHiddenPaceCandidates) (defScope sHiddenPaceCandidates) .none kVHd dcHd pmHd anHd cdHd ctHd), slHd⟩)
    (cHd : PySem.W.codeIn K cdHd "HiddenPace.candidates" = true)
    (kHd : PySem.W.keepIn K (.ref fHd) = true)
    (aHh : PySem.W.findIn K (.ref CH) "history" = some (some (.ref pHh)))
    (gHh : PySem.W.specialIn K (.ref pHh) "__get__" = some (some (.builtin "property.__get__")))
    (tHh : PySem.W.takesIn K (.ref pHh) = some true)
    (rHh : PySem.W.recIn K pHh "property" = some (.ref fHh :: rHhL))
    (lHh : K.lookup fHh = some ⟨ocHh, odHh, .func (PySem.W.fnOf "history" "HiddenPace.history" (defArgs sHiddenPaceHistory) (defBody sHiddenPaceHistory) (defScope sHiddenPaceHistory) .none kVHh dcHh pmHh anHh cdHh ctHh), slHh⟩)
    (cHh : PySem.W.codeIn K cdHh "HiddenPace.history" = true)
    (kHh : PySem.W.keepIn K (.ref fHh) = true)
    (aRo : PySem.W.findCls K (.ref CR) mc "of_units" = some (.get (.builtin "classmethod.__get__") (.ref pO) .none (.ref CR)))
    (rRo : PySem.W.recIn K pO "classmethod" = some (.ref fRo :: rO))
    (lRo : K.lookup fRo = some ⟨ocRo, odRo, .func (PySem.W.fnOf "of_units" "Road.of_units" (defArgs sROfUnits) (defBody sROfUnits) (defScope sROfUnits) .none kVRo dcRo pmRo anRo cdRo ctRo), slRo⟩)
    (cRo : PySem.W.codeIn K cdRo "Road.of_units" = true)
    (kRo : PySem.W.keepIn K (.ref fRo) = true)
    (fRo' : PySem.W.fnIn K fRo = true)
    (cr1 : PySem.W.readsIn K CR mc = true)
    (cr2 : PySem.W.specialIn K (.ref CR) "__getattribute__" = some (some (.builtin "type.__getattribute__")))
    (aRs : PySem.W.findIn K (.ref CR) "sections" = some (some (.ref pRs)))
    (gRs : PySem.W.specialIn K (.ref pRs) "__get__" = some (some (.builtin "property.__get__")))
    (tRs : PySem.W.takesIn K (.ref pRs) = some true)
    (rRs : PySem.W.recIn K pRs "property" = some (.ref fRs :: rRsL))
    (lRs : K.lookup fRs = some ⟨ocRs, odRs, .func (PySem.W.fnOf "sections" "Road.sections" (defArgs sRSections) (defBody sRSections) (defScope sRSections) .none kVRs dcRs pmRs anRs cdRs ctRs), slRs⟩)
    (cRs : PySem.W.codeIn K cdRs "Road.sections" = true)
    (kRs : PySem.W.keepIn K (.ref fRs) = true)
    (jDg : PySem.W.fnIn K fDg = true)
    (pgC : PySem.W.plainGet K C Str.empty = true)
    (hdC : PySem.W.hasDictIn K C = true)
    (poC : PySem.W.plainOver K C = true)
    (saC : PySem.W.findIn K (.ref C) "__setattr__" = some (some (.builtin "object.__setattr__")))
    (mkC : PySem.W.makesIn K C = true)
    (kcC : PySem.W.keepIn K (.ref C) = true)
    (pgR : PySem.W.plainGet K CR Str.empty = true)
    (hdR : PySem.W.hasDictIn K CR = true)
    (poR : PySem.W.plainOver K CR = true)
    (saR : PySem.W.findIn K (.ref CR) "__setattr__" = some (some (.builtin "object.__setattr__")))
    (mkR : PySem.W.makesIn K CR = true)
    (kcR : PySem.W.keepIn K (.ref CR) = true)
    (pgH : PySem.W.plainGet K CH Str.empty = true)
    (hdH : PySem.W.hasDictIn K CH = true)
    (poH : PySem.W.plainOver K CH = true)
    (saH : PySem.W.findIn K (.ref CH) "__setattr__" = some (some (.builtin "object.__setattr__")))
    (mkH : PySem.W.makesIn K CH = true)
    (kcH : PySem.W.keepIn K (.ref CH) = true)
    (nC_sections : PySem.W.findIn K (.ref C) "_sections" = some none)
    (nC_paces : PySem.W.findIn K (.ref C) "_paces" = some none)
    (nC_ticks : PySem.W.findIn K (.ref C) "_ticks" = some none)
    (nC_orders : PySem.W.findIn K (.ref C) "_orders" = some none)
    (nC_leaders : PySem.W.findIn K (.ref C) "_leaders" = some none)
    (nH_name : PySem.W.findIn K (.ref CH) "_name" = some none)
    (nH_last_place : PySem.W.findIn K (.ref CH) "_last_place" = some none)
    (nH_candidates : PySem.W.findIn K (.ref CH) "_candidates" = some none)
    (nH_drives : PySem.W.findIn K (.ref CH) "_drives" = some none)
    (nH_history : PySem.W.findIn K (.ref CH) "_history" = some none)
    (nR_sections : PySem.W.findIn K (.ref CR) "_sections" = some none)
    (nR_units : PySem.W.findIn K (.ref CR) "_units" = some none)
    (z_isinstance : PySem.W.nsIn K mainGlobals "isinstance" = some none)
    (z_int : PySem.W.nsIn K mainGlobals "int" = some none)
    (z_bool : PySem.W.nsIn K mainGlobals "bool" = some none)
    (z_str : PySem.W.nsIn K mainGlobals "str" = some none)
    (z_tuple : PySem.W.nsIn K mainGlobals "tuple" = some none)
    (z_len : PySem.W.nsIn K mainGlobals "len" = some none)
    (z_all : PySem.W.nsIn K mainGlobals "all" = some none)
    (z_enumerate : PySem.W.nsIn K mainGlobals "enumerate" = some none)
    (z_sorted : PySem.W.nsIn K mainGlobals "sorted" = some none)
    (z_list : PySem.W.nsIn K mainGlobals "list" = some none)
    (z_range : PySem.W.nsIn K mainGlobals "range" = some none)
    (z_sum : PySem.W.nsIn K mainGlobals "sum" = some none)
    (z_max : PySem.W.nsIn K mainGlobals "max" = some none)
    (z_set : PySem.W.nsIn K mainGlobals "set" = some none)
    (z_zip : PySem.W.nsIn K mainGlobals "zip" = some none)
    (z_ValueError : PySem.W.nsIn K mainGlobals "ValueError" = some none)
    (v0 : PySem.W.nsIn K mainGlobals "MOST_CARS" = some (some (.int 10 t0)))
    (v1 : PySem.W.nsIn K mainGlobals "LONGEST_NAME" = some (some (.int 8 t1)))
    (v2 : PySem.W.nsIn K mainGlobals "LATEST_START" = some (some (.int 1000000 t2)))
    (v3 : PySem.W.nsIn K mainGlobals "SLOWEST_PACE" = some (some (.int 60 t3)))
    (v4 : PySem.W.nsIn K mainGlobals "MOST_SECTIONS" = some (some (.int 12 t4)))
    (v5 : PySem.W.nsIn K mainGlobals "LONGEST_SECTION" = some (some (.int 99 t5)))
    (v6 : PySem.W.nsIn K mainGlobals "LATEST_TICK" = some (some (.int 1000000000 t6)))
    (aL : PySem.W.nsIn K mainGlobals "LETTERS" = some (some (.ref lp)))
    (aK : PySem.W.nsIn K mainGlobals "KINDS" = some (some (.ref kp)))
    (dlN : KDct K w lp "narrow" (.str "n"))
    (dlW : KDct K w lp "wide" (.str "w"))
    (dkN : KDct K w kp "n" (.str "narrow"))
    (dkW : KDct K w kp "w" (.str "wide"))
    (kM : (kp == sysModules) = false)
    (eE : PySem.W.nsIn K mainGlobals "RoadError" = some (some (.ref CE)))
    (e0 : PySem.W.nsIn K mainGlobals "UnknownCar" = some (some (.ref c0)))
    (e1 : PySem.W.nsIn K mainGlobals "InvalidNumber" = some (some (.ref c1)))
    (e2 : PySem.W.nsIn K mainGlobals "InvalidName" = some (some (.ref c2)))
    (e3 : PySem.W.nsIn K mainGlobals "Contradiction" = some (some (.ref c3)))
    (e4 : PySem.W.nsIn K mainGlobals "InvalidOperation" = some (some (.ref c4)))
    (e5 : PySem.W.nsIn K mainGlobals "TooManyCars" = some (some (.ref c5)))
    (dEs : PySem.W.subIn K (.ref CE) (.type "BaseException") = some true)
    (dEh : PySem.W.hasDictIn K CE = true)
    (dEt : PySem.W.typeIn K (.ref CE) = some (.type "type"))
    (d0c : PySem.W.isClsIn K c0 = true)
    (d0t : PySem.W.typeIn K (.ref c0) = some (.type "type"))
    (d1c : PySem.W.isClsIn K c1 = true)
    (d1t : PySem.W.typeIn K (.ref c1) = some (.type "type"))
    (d2c : PySem.W.isClsIn K c2 = true)
    (d2t : PySem.W.typeIn K (.ref c2) = some (.type "type"))
    (d3c : PySem.W.isClsIn K c3 = true)
    (d3t : PySem.W.typeIn K (.ref c3) = some (.type "type"))
    (d4c : PySem.W.isClsIn K c4 = true)
    (d4t : PySem.W.typeIn K (.ref c4) = some (.type "type"))
    (d5c : PySem.W.isClsIn K c5 = true)
    (d5t : PySem.W.typeIn K (.ref c5) = some (.type "type"))
    (r3cl : PySem.W.isClsIn K c3 = true)
    (r3ga : PySem.W.findIn K (.ref c3) "__getattribute__" = some (some (.builtin "BaseException.__getattribute__")))
    (r3gg : PySem.W.findIn K (.ref c3) "__getattr__" = some none)
    (r3sb : PySem.W.subIn K (.ref c3) (.type "BaseException") = some true)
    (r3hd : PySem.W.hasDictIn K c3 = true)
    (r3ct : PySem.W.findIn K (.ref c3) "__class__" = some (some (.builtin "object.__class__")))
    (r3mr : PySem.W.mroIn K c3 (.type "object") = some true)
    (r3ix : PySem.W.findIn K (.ref c3) "index" = some none)
    (r3nm : PySem.W.findIn K (.ref c3) "name" = some none)
    (r3xe : PySem.W.subIn K (.ref c3) (.ref CE) = some true)
    (r3kv : PySem.W.subIn K (.ref c3) (.type "ValueError") = some true)
    (r3k0 : PySem.W.subIn K (.ref c3) (.ref c0) = some false)
    (r3k1 : PySem.W.subIn K (.ref c3) (.ref c1) = some false)
    (r3k2 : PySem.W.subIn K (.ref c3) (.ref c2) = some false)
    (r3k3 : PySem.W.subIn K (.ref c3) (.ref c3) = some true)
    (r3k4 : PySem.W.subIn K (.ref c3) (.ref c4) = some false)
    (r3k5 : PySem.W.subIn K (.ref c3) (.ref c5) = some false)
    (qhn : PySem.W.specialIn K (.builtin "object.__class__") "__get__" = some (some (.builtin "getset_descriptor.__get__")))
    (qht : PySem.W.takesIn K (.builtin "object.__class__") = some true)
    (n3q : PySem.W.excIn K c3 [.type "ValueError", .type "Exception", .type "BaseException", .type "object"] "ValueError.__new__" = true)
    (n3k : PySem.W.keepIn K (.ref c3) = true)
    (n3t : PySem.W.typeIn K (.ref c3) = some (.type "type"))
    (neP01 : Pio ≠ Pdr)
    (neP02 : Pio ≠ Pla)
    (neP12 : Pdr ≠ Pla)
    (hT : ∀ P ∈ [Pio, Pdr, Pla], h.get? P = some { cls := .none, data := .fields #[] }) : LamX.LawAtS l w K CX0 11 63 "_law_script" mg fa h := by
  have e := hfa.symm.trans (PySem.W.mg_of X G ala)
  cases e
  have M : Mg mg := ⟨PySem.W.mg_none_of X G z_isinstance, PySem.W.mg_none_of X G z_int, PySem.W.mg_none_of X G z_bool, PySem.W.mg_none_of X G z_str, PySem.W.mg_none_of X G z_tuple, PySem.W.mg_none_of X G z_len, PySem.W.mg_none_of X G z_all, PySem.W.mg_none_of X G z_enumerate, PySem.W.mg_none_of X G z_sorted, PySem.W.mg_none_of X G z_list, PySem.W.mg_none_of X G z_range, PySem.W.mg_none_of X G z_sum, ⟨_, PySem.W.mg_of X G v0⟩, ⟨_, PySem.W.mg_of X G v1⟩, ⟨_, PySem.W.mg_of X G v2⟩, ⟨_, PySem.W.mg_of X G v3⟩, ⟨_, PySem.W.mg_of X G v4⟩, ⟨_, PySem.W.mg_of X G v5⟩⟩
  have R : DriveT K mg C := ⟨⟨pgC, hdC, poC, saC⟩, nC_sections, nC_paces, nC_ticks, nC_orders, nC_leaders, PySem.W.mg_of X G aC⟩
  have RR : RoadT K w mg CR lp kp := ⟨⟨pgR, hdR, poR, saR⟩, nR_sections, nR_units, PySem.W.mg_of X G aR, PySem.W.mg_of X G aL, PySem.W.mg_of X G aK, dlN, dlW, dkN, dkW, kM⟩
  have Fin := fun_mk (st := sIsNumber) lin cin kin
  have Bin : Fb K mg "is_number" sIsNumber ["value", "least", "most"] fin _ := ⟨Fin, PySem.W.mg_of X G ain, Fin.binds (ps := ["value", "least", "most"]) fun _ _ _ _ _ _ us hl => match us, hl with | [_, _, _], _ => rfl⟩
  have Fnm := fun_mk (st := sIsName) lnm cnm knm
  have Bnm : Fb K mg "is_name" sIsName ["value"] fnm _ := ⟨Fnm, PySem.W.mg_of X G anm, Fnm.binds (ps := ["value"]) fun _ _ _ _ _ _ us hl => match us, hl with | [_], _ => rfl⟩
  have Fic := fun_mk (st := sIsCar) lic cic kic
  have Bic : Fb K mg "is_car" sIsCar ["value"] fic _ := ⟨Fic, PySem.W.mg_of X G aic, Fic.binds (ps := ["value"]) fun _ _ _ _ _ _ us hl => match us, hl with | [_], _ => rfl⟩
  have Fcc := fun_mk (st := sCheckCars) lcc ccc kcc
  have Bcc : Fb K mg "check_cars" sCheckCars ["cars"] fcc _ := ⟨Fcc, PySem.W.mg_of X G acc, Fcc.binds (ps := ["cars"]) fun _ _ _ _ _ _ us hl => match us, hl with | [_], _ => rfl⟩
  have Fcw := fun_mk (st := sCheckNewName) lcw ccw kcw
  have Bcw : Fb K mg "check_new_name" sCheckNewName ["cars", "name"] fcw _ := ⟨Fcw, PySem.W.mg_of X G acw, Fcw.binds (ps := ["cars", "name"]) fun _ _ _ _ _ _ us hl => match us, hl with | [_, _], _ => rfl⟩
  have Bio : FbC K mg "_in_order" sInOrder ["names", "ticks"] fio _ ccio := ⟨⟨⟨_, _, _, _, _, _, _, _, rfl, lio, cio⟩, kio⟩, PySem.W.mg_of X G aio, .all fun us hl => match us, hl with | [_, _], _ => rfl⟩
  have Ffo := fun_mk (st := sFollow) lfo cfo kfo
  have Bfo : Fb K mg "_follow" sFollow ["order", "free"] ffo _ := ⟨Ffo, PySem.W.mg_of X G afo, Ffo.binds (ps := ["order", "free"]) fun _ _ _ _ _ _ us hl => match us, hl with | [_, _], _ => rfl⟩
  have Fdv := fun_mk (st := sDriveAll) ldv cdv kdv
  have Bdv : Fb K mg "drive_all" sDriveAll ["sections", "starts", "paces"] fdv _ := ⟨Fdv, PySem.W.mg_of X G adv, Fdv.binds (ps := ["sections", "starts", "paces"]) fun _ _ _ _ _ _ us hl => match us, hl with | [_, _, _], _ => rfl⟩
  have Fis := fun_mk (st := sIsSection) lis cis kis
  have Bis : Fb K mg "_is_section" sIsSection ["value"] fis _ := ⟨Fis, PySem.W.mg_of X G ais, Fis.binds (ps := ["value"]) fun _ _ _ _ _ _ us hl => match us, hl with | [_], _ => rfl⟩
  have Fuo := fun_mk (st := sUnitsOf) luo cuo kuo
  have Buo : Fb K mg "_units_of" sUnitsOf ["sections"] fuo _ := ⟨Fuo, PySem.W.mg_of X G auo, Fuo.binds (ps := ["sections"]) fun _ _ _ _ _ _ us hl => match us, hl with | [_], _ => rfl⟩
  have Fru := fun_mk (st := sRuns) lru cru kru
  have Bru : Fb K mg "_runs" sRuns ["units"] fru _ := ⟨Fru, PySem.W.mg_of X G aru, Fru.binds (ps := ["units"]) fun _ _ _ _ _ _ us hl => match us, hl with | [_], _ => rfl⟩
  have Far := fun_mk (st := sAreInOrder) lar car kar
  have Bar : Fb K mg "_are_in_order" sAreInOrder ["order", "names"] far _ := ⟨Far, PySem.W.mg_of X G aar, Far.binds (ps := ["order", "names"]) fun _ _ _ _ _ _ us hl => match us, hl with | [_, _], _ => rfl⟩
  have Fta := fun_mk (st := sTaken) lta cta kta
  have Bta : Fb K mg "_law_taken" sTaken ["_law_row", "_law_many"] fta _ := ⟨Fta, PySem.W.mg_of X G ata, Fta.binds (ps := ["_law_row", "_law_many"]) fun _ _ _ _ _ _ us hl => match us, hl with | [_, _], _ => rfl⟩
  have Fuu := fun_mk (st := sUnits) luu cuu kuu
  have Buu : Fb K mg "_law_units" sUnits ["_law_row", "_law_most"] fuu _ := ⟨Fuu, PySem.W.mg_of X G auu, Fuu.binds (ps := ["_law_row", "_law_most"]) fun _ _ _ _ _ _ us hl => match us, hl with | [_, _], _ => rfl⟩
  have Fse := fun_mk (st := sSections) lse cse kse
  have Bse : Fb K mg "_law_sections" sSections ["_law_units_here"] fse _ := ⟨Fse, PySem.W.mg_of X G ase, Fse.binds (ps := ["_law_units_here"]) fun _ _ _ _ _ _ us hl => match us, hl with | [_], _ => rfl⟩
  have Fca := fun_mk (st := sCars) lca cca kca
  have Bca : Fb K mg "_law_cars" sCars ["_law_row", "_law_most"] fca _ := ⟨Fca, PySem.W.mg_of X G aca, Fca.binds (ps := ["_law_row", "_law_most"]) fun _ _ _ _ _ _ us hl => match us, hl with | [_, _], _ => rfl⟩
  have Bdr : FbC K mg "_law_driven" sDriven ["_law_sections_here", "_law_cars_here"] fdr _ ccdr := ⟨⟨⟨_, _, _, _, _, _, _, _, rfl, ldr, cdr⟩, kdr⟩, PySem.W.mg_of X G adr, .all fun us hl => match us, hl with | [_, _], _ => rfl⟩
  have Fdw := fun_mk (st := sDrawn) ldw cdw kdw
  have Bdw : Fb K mg "_law_drawn" sDrawn ["_law_row", "_law_sections_here", "_law_cars_here"] fdw _ := ⟨Fdw, PySem.W.mg_of X G adw, Fdw.binds (ps := ["_law_row", "_law_sections_here", "_law_cars_here"]) fun _ _ _ _ _ _ us hl => match us, hl with | [_, _, _], _ => rfl⟩
  have Fto := fun_mk (st := sRaised) lto cto kto
  have Bto : Fb K mg "_law_raised" sRaised ["_law_work"] fto _ := ⟨Fto, PySem.W.mg_of X G ato, Fto.binds (ps := ["_law_work"]) fun _ _ _ _ _ _ us hl => match us, hl with | [_], _ => rfl⟩
  have Fla : FunC K "law" "law" sLaw _ _ ccla := ⟨⟨_, _, _, _, _, _, _, _, rfl, lla, cla⟩, kla⟩
  have FDi := fun_mk (st := sDInit) lDi cDi kDi
  have bDi := FDi.binds (ps := ["self", "road", "cars"]) fun _ _ _ _ _ _ us hl => match us, hl with | [_, _, _], _ => rfl
  have FDc := fun_mk (st := sDCheckCar) lDc cDc kDc
  have bDc := FDc.binds (ps := ["self", "name"]) fun _ _ _ _ _ _ us hl => match us, hl with | [_, _], _ => rfl
  have FDp := fun_mk (st := sDCheckPlace) lDp cDp kDp
  have bDp := FDp.binds (ps := ["self", "place"]) fun _ _ _ _ _ _ us hl => match us, hl with | [_, _], _ => rfl
  have FDg := fun_mk (st := sDGet) lDg cDg kDg
  have bDg := FDg.binds (ps := ["self", "at"]) fun _ _ _ _ _ _ us hl => match us, hl with | [_, _], _ => rfl
  have FDh := fun_mk (st := sDHas) lDh cDh kDh
  have bDh := FDh.binds (ps := ["self", "x"]) fun _ _ _ _ _ _ us hl => match us, hl with | [_, _], _ => rfl
  have FDo := fun_mk (st := sDOrderAt) lDo cDo kDo
  have bDo := FDo.binds (ps := ["self", "place"]) fun _ _ _ _ _ _ us hl => match us, hl with | [_, _], _ => rfl
  have FRi := fun_mk (st := sRInit) lRi cRi kRi
  have FHi := fun_mk (st := sHiddenPaceInit) lHi cHi kHi
  have bHi := FHi.binds (ps := ["self", "road", "cars", "name", "start"]) fun _ _ _ _ _ _ us hl => match us, hl with | [_, _, _, _, _], _ => rfl
  have FHk := fun_mk (st := sHiddenPaceCheckPlace) lHk cHk kHk
  have bHk := FHk.binds (ps := ["self", "place"]) fun _ _ _ _ _ _ us hl => match us, hl with | [_, _], _ => rfl
  have FHc := fun_mk (st := sHiddenPaceAccept) lHc cHc kHc
  have bHc := FHc.binds (ps := ["self", "remaining", "observation"]) fun _ _ _ _ _ _ us hl => match us, hl with | [_, _, _], _ => rfl
  have FHs := fun_mk (st := sHiddenPaceSee) lHs cHs kHs
  have bHs := FHs.binds (ps := ["self", "place", "tick"]) fun _ _ _ _ _ _ us hl => match us, hl with | [_, _, _], _ => rfl
  have FHo := fun_mk (st := sHiddenPaceSeeOrder) lHo cHo kHo
  have FHp := fun_mk (st := sHiddenPacePossibleTicks) lHp cHp kHp
  have bHp := FHp.binds (ps := ["self", "place"]) fun _ _ _ _ _ _ us hl => match us, hl with | [_, _], _ => rfl
  have FHb := fun_mk (st := sHiddenPaceBestPlace) lHb cHb kHb
  have bHb := FHb.binds (ps := ["self"]) fun _ _ _ _ _ _ us hl => match us, hl with | [_], _ => rfl
  have FHd := fun_mk (st := sHiddenPaceCandidates) lHd cHd kHd
  have bHd := FHd.binds (ps := ["self"]) fun _ _ _ _ _ _ us hl => match us, hl with | [_], _ => rfl
  have FHh := fun_mk (st := sHiddenPaceHistory) lHh cHh kHh
  have bHh := FHh.binds (ps := ["self"]) fun _ _ _ _ _ _ us hl => match us, hl with | [_], _ => rfl
  have FRo := fun_mk (st := sROfUnits) lRo cRo kRo
  have bRo := FRo.binds (ps := ["cls", "units"]) fun _ _ _ _ _ _ us hl => match us, hl with | [_, _], _ => rfl
  have FRs := fun_mk (st := sRSections) lRs cRs kRs
  have bRs := FRs.binds (ps := ["self"]) fun _ _ _ _ _ _ us hl => match us, hl with | [_], _ => rfl
  have MDi : Fm K C "__init__" "Drive.__init__" sDInit ["self", "road", "cars"] fDi _ := ⟨FDi, ⟨aDi, iDi, kDi⟩, bDi⟩
  have MDc : Fm K C "_check_car" "Drive._check_car" sDCheckCar ["self", "name"] fDc _ := ⟨FDc, ⟨aDc, iDc, kDc⟩, bDc⟩
  have MDp : Fm K C "_check_place" "Drive._check_place" sDCheckPlace ["self", "place"] fDp _ := ⟨FDp, ⟨aDp, iDp, kDp⟩, bDp⟩
  have MDo : Fm K C "order_at" "Drive.order_at" sDOrderAt ["self", "place"] fDo _ := ⟨FDo, ⟨aDo, iDo, kDo⟩, bDo⟩
  have MHk : Fm K CH "_check_place" "HiddenPace._check_place" sHiddenPaceCheckPlace ["self", "place"] fHk _ := ⟨FHk, ⟨aHk, iHk, kHk⟩, bHk⟩
  have MHc : Fm K CH "_accept" "HiddenPace._accept" sHiddenPaceAccept ["self", "remaining", "observation"] fHc _ := ⟨FHc, ⟨aHc, iHc, kHc⟩, bHc⟩
  have MHs : Fm K CH "see" "HiddenPace.see" sHiddenPaceSee ["self", "place", "tick"] fHs _ := ⟨FHs, ⟨aHs, iHs, kHs⟩, bHs⟩
  have MHp : Fm K CH "possible_ticks" "HiddenPace.possible_ticks" sHiddenPacePossibleTicks ["self", "place"] fHp _ := ⟨FHp, ⟨aHp, iHp, kHp⟩, bHp⟩
  have MHb : Fm K CH "best_place" "HiddenPace.best_place" sHiddenPaceBestPlace ["self"] fHb _ := ⟨FHb, ⟨aHb, iHb, kHb⟩, bHb⟩
  have POHd : PropOf K CH "candidates" pHd fHd := ⟨aHd, gHd, tHd, _, rHd⟩
  have POHh : PropOf K CH "history" pHh fHh := ⟨aHh, gHh, tHh, _, rHh⟩
  have C3 : Cls K CH := ⟨pgH, hdH, poH, saH⟩
  have MI3 : Mk K CH fHi := ⟨mkH, aHi, iHi, kcH⟩
  let T : List (Addr × Str) := [(Pio, qInOrder), (Pdr, qDriven), (Pla, qLaw)]
  have mio : (Pio, qInOrder) ∈ T := by simp [T]
  have mdr : (Pdr, qDriven) ∈ T := by simp [T]
  have mla : (Pla, qLaw) ∈ T := by simp [T]
  have uio : ∀ p ∈ T, p.1 = Pio → p.2 = qInOrder := fun p hp e => by
    rcases List.mem_cons.mp hp with z | hp
    · rw [z]
    · skip
      rcases List.mem_cons.mp hp with z | hp
      · rw [z] at e
        exact absurd e.symm neP01
      · skip
        rw [(List.mem_singleton.mp hp)] at e
        exact absurd e.symm neP02
  have udr : ∀ p ∈ T, p.1 = Pdr → p.2 = qDriven := fun p hp e => by
    rcases List.mem_cons.mp hp with z | hp
    · rw [z] at e
      exact absurd e neP01
    · skip
      rcases List.mem_cons.mp hp with z | hp
      · rw [z]
      · skip
        rw [(List.mem_singleton.mp hp)] at e
        exact absurd e.symm neP12
  have ula : ∀ p ∈ T, p.1 = Pla → p.2 = qLaw := fun p hp e => by
    rcases List.mem_cons.mp hp with z | hp
    · rw [z] at e
      exact absurd e neP02
    · skip
      rcases List.mem_cons.mp hp with z | hp
      · rw [z] at e
        exact absurd e neP12
      · skip
        rw [(List.mem_singleton.mp hp)]
  have PORs : PropOf K CR "sections" pRs fRs := ⟨aRs, gRs, tRs, _, rRs⟩
  have MI : Mk K C fDi := ⟨mkC, aDi, iDi, kcC⟩
  have MR : Mk K CR fRi := ⟨mkR, aRi, iRi, kcR⟩
  have Cio : PySem.W.CodeHd h ccio Pio := PySem.W.codeHd_of_K X hio
  have Cdr : PySem.W.CodeHd h ccdr Pdr := PySem.W.codeHd_of_K X hdr
  have Cla : PySem.W.CodeHd h ccla Pla := PySem.W.codeHd_of_K X hla
  refine ⟨PySem.W.fnOf "law" "law" (defArgs sLaw) (defBody sLaw) (defScope sLaw) .none kVla dcla pmla anla (.ref ccla) ctla, [(ccio, Pio), (ccdr, Pdr), (ccla, Pla)], spLaw K T, fun p hp => hT p.2 ?_, fun p hp => ?_, fun p hp => ?_, fun s v => .of_eq rfl, fun H a ns _ _ hH hS => ⟨a, ns, rfl, hS, fun p hp => ?_, fun _ => rfl⟩, fun base hK hNs hTB => ?_⟩
  · skip
    rcases List.mem_cons.mp hp with z | hp
    · rw [z]; simp
    · skip
      rcases List.mem_cons.mp hp with z | hp
      · rw [z]; simp
      · skip
        rw [(List.mem_singleton.mp hp)]; simp
  · skip
    rcases List.mem_cons.mp hp with z | hp
    · rw [z]; exact nio
    · skip
      rcases List.mem_cons.mp hp with z | hp
      · rw [z]; exact ndr
      · skip
        rw [(List.mem_singleton.mp hp)]; exact nla
  · skip
    rcases List.mem_cons.mp hp with z | hp
    · rw [z]; exact Cio
    · skip
      rcases List.mem_cons.mp hp with z | hp
      · rw [z]; exact Cdr
      · skip
        rw [(List.mem_singleton.mp hp)]; exact Cla
  · skip
    rcases List.mem_cons.mp hp with z | hp
    · rw [z]; exact tabS0 (hH (ccio, Pio) (by simp))
    · skip
      rcases List.mem_cons.mp hp with z | hp
      · rw [z]; exact tabS0 (hH (ccdr, Pdr) (by simp))
      · skip
        rw [(List.mem_singleton.mp hp)]; exact tabS0 (hH (ccla, Pla) (by simp))
  have TBio : TabB base mg ccio Pio := hTB (ccio, Pio) (by simp)
  have TBdr : TabB base mg ccdr Pdr := hTB (ccdr, Pdr) (by simp)
  have TBla : TabB base mg ccla Pla := hTB (ccla, Pla) (by simp)
  have Gin := ok_isNumber (P := l.prog) (w := w) (base := base) Fin M
  have Gnm := ok_isName (P := l.prog) (w := w) (base := base) Fnm M
  have Gic := ok_isCar (P := l.prog) (w := w) (base := base) Bic M Bnm Bin Gnm Gin
  have Gcc := ok_checkCars (P := l.prog) (w := w) (base := base) Bcc M Bic Gic
  have Gcw := ok_newName (P := l.prog) (w := w) (base := base) Fcw Bnm Gnm
  have Gio := ok_inOrder (P := l.prog) (w := w) (base := base) Bio M TBio mio uio
  have Gfo := ok_follow (P := l.prog) (w := w) (base := base) Bfo
  have Gis := ok_isSection (P := l.prog) (w := w) (base := base) Bis M Bin Gin
  have Gru := ok_runs (P := l.prog) (w := w) (base := base) Bru RR
  have Guo := ok_unitsOf (P := l.prog) (w := w) (base := base) Buo RR
  have GRi := ok_rInit (P := l.prog) (w := w) (base := base) FRi M RR Bis Gis Buo Guo
  have GRo := ok_ofUnits (P := l.prog) (w := w) (base := base) FRo M RR MR Bru Gru GRi
  have GRs := ok_rSections (P := l.prog) (w := w) (base := base) FRs RR
  have Gdv := ok_driveAll (P := l.prog) (w := w) (base := base) (Pt:=Pio) Fdv M Bio Bfo Gio Gfo
  have GDi := ok_dInit (P := l.prog) (w := w) (base := base) MDi M R RR Bcc Bdv PORs bRs Gcc Gdv GRs
  have GDh := ok_has (P := l.prog) (w := w) (base := base) FDh M R
  have GDc := ok_checkCar (P := l.prog) (w := w) (base := base) MDc aDh iDh bDh GDh
  have GDp := ok_checkPlace (P := l.prog) (w := w) (base := base) MDp M R Bin Gin
  have GDg := ok_get (P := l.prog) (w := w) (base := base) FDg M R MDc GDc
  have GDo := ok_orderAt (P := l.prog) (w := w) (base := base) MDo M R MDp GDp
  have HT : HidT K CH := ⟨C3, nH_name, nH_last_place, nH_candidates, nH_drives, nH_history⟩
  have EC : ErrT K mg "Contradiction" c3 := ⟨n3q, PySem.W.mg_of X G e3, n3k, r3sb, n3t⟩
  have GHi := ok_hInit (P := l.prog) (w := w) (base := base) FHi M HT R RR Bcc Gcc Bcw Gcw Bin Gin MI bDi GDi PORs bRs GRs
  have GHd := ok_cands (P := l.prog) (w := w) (base := base) (C := C) FHd M HT
  have GHh := ok_hist (P := l.prog) (w := w) (base := base) (C := C) FHh M HT
  have GHk := ok_hPlace (P := l.prog) (w := w) (base := base) (C := C) MHk HT Bin Gin
  have GHc := ok_accept (P := l.prog) (w := w) (base := base) (C := C) MHc M HT EC
  have GHs := ok_see (P := l.prog) (w := w) (base := base) MHs HT ⟨_, PySem.W.mg_of X G v6⟩ MHk GHk Bin Gin aDg iDg jDg bDg GDg MHc GHc
  have Gar := ok_inOrd (P := l.prog) (w := w) (base := base) Far M (PySem.W.mg_none_of X G z_zip)
  have GHo := ok_seeO (P := l.prog) (w := w) (base := base) FHo M HT R MHk GHk aDh iDh bDh GDh MDo GDo Bar Gar MHc GHc
  have GHp := ok_poss (P := l.prog) (w := w) (base := base) MHp M HT MHk GHk aDg iDg jDg bDg GDg
  have GHb := ok_best (P := l.prog) (w := w) (base := base) MHb M (PySem.W.mg_none_of X G z_max) HT MHp GHp
  have Gta := ok_taken (P := l.prog) (w := w) (base := base) Fta M
  have Guu := ok_units (P := l.prog) (w := w) (base := base) Fuu M Bta Gta
  have Gse := ok_sections (P := l.prog) (w := w) (base := base) Fse M
  have Gca := ok_cars (P := l.prog) (w := w) (base := base) Fca M Bta Gta
  have Gdr := ok_driven (P := l.prog) (w := w) (base := base) Bdr M TBdr mdr udr
  have Gdw := ok_drawn (P := l.prog) (w := w) (base := base) Fdw M RR Buu Guu Bse Gse Bca Gca ⟨cr1, cr2⟩ ⟨aRo, ⟨_, rRo⟩, fRo'⟩ bRo GRo
  have WT : Teller K mg "_law_raised" "_law_work" fto nRaised (defBody sRaised) (defScope sRaised) cdto := ⟨PySem.W.mg_of X G ato, kto, ⟨_, _, _, _, _, _, _, _, _, _, lto, Bto.bd⟩, cto, scRaised, rfl, .inl rfl⟩
  exact ok_law (C := C) Fla TBla mla ula ⟨M, PySem.W.mg_none_of X G z_max, PySem.W.mg_none_of X G z_set, HT, ⟨PySem.W.mg_of X G eE, PySem.W.mg_of X G e0, PySem.W.mg_of X G e1, PySem.W.mg_of X G e2, PySem.W.mg_of X G e3, PySem.W.mg_of X G e4, PySem.W.mg_of X G e5, PySem.W.mg_none_of X G z_ValueError⟩, ⟨⟨r3cl, r3ga, r3gg, r3sb, r3hd, r3ct, qhn, qht, r3mr, r3ix, r3nm⟩, PySem.W.exm_ref dEs dEh dEt r3xe, kit_refE r3k3 d0c d0t r3k0, kit_refE r3k3 d1c d1t r3k1, kit_refE r3k3 d2c d2t r3k2, kit_refE r3k3 d3c d3t r3k3, kit_refE r3k3 d4c d4t r3k4, kit_refE r3k3 d5c d5t r3k5, kit_tyE (by decide +kernel) r3kv⟩, ⟨_, _, Bta, Gta⟩, ⟨_, _, Bdw, Gdw⟩, ⟨_, _, _, Bdr, Gdr⟩, ⟨_, _, MI3, PySem.W.mg_of X G aX3, bHi, GHi⟩, ⟨_, _, MHs, GHs⟩, ⟨_, ⟨aHo, iHo, kHo⟩, GHo⟩, ⟨_, _, MHp, GHp⟩, ⟨_, _, MHb, GHb⟩, ⟨_, POHd, bHd, GHd⟩, ⟨_, POHh, bHh, GHh⟩, ⟨_, _, WT⟩⟩
end Sl

open PySem PySem.W PyProof.Rows
set_option maxRecDepth 100000 in
set_option maxHeartbeats 0 in
theorem PySem.Challenge.cw_slowleaders_k68_whole_hidden_paces_by_al_holds : PySem.Challenge.rw_slowleaders_k68_whole_hidden_paces_by_al.Holds := by
  w_on; o_law; k_head; (case hw => w_witness2)
  k_fill
  refine LamX.walk_ofTs (l := PySem.Challenge.rw_slowleaders_k68_whole_hidden_paces_by_al) (n := 63) (k := 11) (x := "_law_script") (CX := fun _ => L2.CX0) rfl (by decide) rfl ⟨rfl, by decide, by decide⟩ (fun w h Y => PySem.W.km_in_of Y) ?F (fun _ _ _ _ _ z => z)
  case F =>
    intro w mg fa h Y KX G hmg
    have hT8 := km_tabs_of Y
    refine' Sl.all_mk (Pio := 191) (Pdr := 543) (Pla := 562) (mc := PySem.Value.type "type") KX G hmg ?aC ?aR ?aX3 ?ain ?lin ?cin ?kin ?anm ?lnm ?cnm ?knm ?aic ?lic ?cic ?kic ?acc ?lcc ?ccc ?kcc ?acw ?lcw ?ccw ?kcw ?aio ?lio ?cio ?kio ?hio ?nio ?afo ?lfo ?cfo ?kfo ?adv ?ldv ?cdv ?kdv ?ais ?lis ?cis ?kis ?auo ?luo ?cuo ?kuo ?aru ?lru ?cru ?kru ?aar ?lar ?car ?kar ?ata ?lta ?cta ?kta ?auu ?luu ?cuu ?kuu ?ase ?lse ?cse ?kse ?aca ?lca ?cca ?kca ?adr ?ldr ?cdr ?kdr ?hdr ?ndr ?adw ?ldw ?cdw ?kdw ?ato ?lto ?cto ?kto ?ala ?lla ?cla ?kla ?hla ?nla ?aDi ?iDi ?lDi ?cDi ?kDi ?aDc ?iDc ?lDc ?cDc ?kDc ?aDp ?iDp ?lDp ?cDp ?kDp ?aDg ?iDg ?lDg ?cDg ?kDg ?aDh ?iDh ?lDh ?cDh ?kDh ?aDo ?iDo ?lDo ?cDo ?kDo ?aRi ?iRi ?lRi ?cRi ?kRi ?aHi ?iHi ?lHi ?cHi ?kHi ?aHk ?iHk ?lHk ?cHk ?kHk ?aHc ?iHc ?lHc ?cHc ?kHc ?aHs ?iHs ?lHs ?cHs ?kHs ?aHo ?iHo ?lHo ?cHo ?kHo ?aHp ?iHp ?lHp ?cHp ?kHp ?aHb ?iHb ?lHb ?cHb ?kHb ?aHd ?gHd ?tHd ?rHd ?lHd ?cHd ?kHd ?aHh ?gHh ?tHh ?rHh ?lHh ?cHh ?kHh ?aRo ?rRo ?lRo ?cRo ?kRo ?fRo' ?cr1 ?cr2 ?aRs ?gRs ?tRs ?rRs ?lRs ?cRs ?kRs ?jDg ?pgC ?hdC ?poC ?saC ?mkC ?kcC ?pgR ?hdR ?poR ?saR ?mkR ?kcR ?pgH ?hdH ?poH ?saH ?mkH ?kcH ?nC_sections ?nC_paces ?nC_ticks ?nC_orders ?nC_leaders ?nH_name ?nH_last_place ?nH_candidates ?nH_drives ?nH_history ?nR_sections ?nR_units ?z_isinstance ?z_int ?z_bool ?z_str ?z_tuple ?z_len ?z_all ?z_enumerate ?z_sorted ?z_list ?z_range ?z_sum ?z_max ?z_set ?z_zip ?z_ValueError ?v0 ?v1 ?v2 ?v3 ?v4 ?v5 ?v6 ?aL ?aK ?dlN ?dlW ?dkN ?dkW ?kM ?eE ?e0 ?e1 ?e2 ?e3 ?e4 ?e5 ?dEs ?dEh ?dEt ?d0c ?d0t ?d1c ?d1t ?d2c ?d2t ?d3c ?d3t ?d4c ?d4t ?d5c ?d5t ?r3cl ?r3ga ?r3gg ?r3sb ?r3hd ?r3ct ?r3mr ?r3ix ?r3nm ?r3xe ?r3kv ?r3k0 ?r3k1 ?r3k2 ?r3k3 ?r3k4 ?r3k5 ?qhn ?qht ?n3q ?n3k ?n3t ?neP01 ?neP02 ?neP12 ?hT
    (case aC => first | k_is | k_exc | kx_is)
    (case aR => first | k_is | k_exc | kx_is)
    (case aX3 => first | k_is | k_exc | kx_is)
    (case ain => first | k_is | k_exc | kx_is)
    (case lin => first | k_is | k_exc | kx_is)
    (case cin => first | k_is | k_exc | kx_is)
    (case kin => first | k_is | k_exc | kx_is)
    (case anm => first | k_is | k_exc | kx_is)
    (case lnm => first | k_is | k_exc | kx_is)
    (case cnm => first | k_is | k_exc | kx_is)
    (case knm => first | k_is | k_exc | kx_is)
    (case aic => first | k_is | k_exc | kx_is)
    (case lic => first | k_is | k_exc | kx_is)
    (case cic => first | k_is | k_exc | kx_is)
    (case kic => first | k_is | k_exc | kx_is)
    (case acc => first | k_is | k_exc | kx_is)
    (case lcc => first | k_is | k_exc | kx_is)
    (case ccc => first | k_is | k_exc | kx_is)
    (case kcc => first | k_is | k_exc | kx_is)
    (case acw => first | k_is | k_exc | kx_is)
    (case lcw => first | k_is | k_exc | kx_is)
    (case ccw => first | k_is | k_exc | kx_is)
    (case kcw => first | k_is | k_exc | kx_is)
    (case aio => first | k_is | k_exc | kx_is)
    (case lio => first | k_is | k_exc | kx_is)
    (case cio => first | k_is | k_exc | kx_is)
    (case kio => first | k_is | k_exc | kx_is)
    (case hio => first | kernel_rfl | k_is)
    (case nio => first | kernel_rfl | k_is)
    (case afo => first | k_is | k_exc | kx_is)
    (case lfo => first | k_is | k_exc | kx_is)
    (case cfo => first | k_is | k_exc | kx_is)
    (case kfo => first | k_is | k_exc | kx_is)
    (case adv => first | k_is | k_exc | kx_is)
    (case ldv => first | k_is | k_exc | kx_is)
    (case cdv => first | k_is | k_exc | kx_is)
    (case kdv => first | k_is | k_exc | kx_is)
    (case ais => first | k_is | k_exc | kx_is)
    (case lis => first | k_is | k_exc | kx_is)
    (case cis => first | k_is | k_exc | kx_is)
    (case kis => first | k_is | k_exc | kx_is)
    (case auo => first | k_is | k_exc | kx_is)
    (case luo => first | k_is | k_exc | kx_is)
    (case cuo => first | k_is | k_exc | kx_is)
    (case kuo => first | k_is | k_exc | kx_is)
    (case aru => first | k_is | k_exc | kx_is)
    (case lru => first | k_is | k_exc | kx_is)
    (case cru => first | k_is | k_exc | kx_is)
    (case kru => first | k_is | k_exc | kx_is)
    (case aar => first | k_is | k_exc | kx_is)
    (case lar => first | k_is | k_exc | kx_is)
    (case car => first | k_is | k_exc | kx_is)
    (case kar => first | k_is | k_exc | kx_is)
    (case ata => first | k_is | k_exc | kx_is)
    (case lta => first | k_is | k_exc | kx_is)
    (case cta => first | k_is | k_exc | kx_is)
    (case kta => first | k_is | k_exc | kx_is)
    (case auu => first | k_is | k_exc | kx_is)
    (case luu => first | k_is | k_exc | kx_is)
    (case cuu => first | k_is | k_exc | kx_is)
    (case kuu => first | k_is | k_exc | kx_is)
    (case ase => first | k_is | k_exc | kx_is)
    (case lse => first | k_is | k_exc | kx_is)
    (case cse => first | k_is | k_exc | kx_is)
    (case kse => first | k_is | k_exc | kx_is)
    (case aca => first | k_is | k_exc | kx_is)
    (case lca => first | k_is | k_exc | kx_is)
    (case cca => first | k_is | k_exc | kx_is)
    (case kca => first | k_is | k_exc | kx_is)
    (case adr => first | k_is | k_exc | kx_is)
    (case ldr => first | k_is | k_exc | kx_is)
    (case cdr => first | k_is | k_exc | kx_is)
    (case kdr => first | k_is | k_exc | kx_is)
    (case hdr => first | kernel_rfl | k_is)
    (case ndr => first | kernel_rfl | k_is)
    (case adw => first | k_is | k_exc | kx_is)
    (case ldw => first | k_is | k_exc | kx_is)
    (case cdw => first | k_is | k_exc | kx_is)
    (case kdw => first | k_is | k_exc | kx_is)
    (case ato => first | k_is | k_exc | kx_is)
    (case lto => first | k_is | k_exc | kx_is)
    (case cto => first | k_is | k_exc | kx_is)
    (case kto => first | k_is | k_exc | kx_is)
    (case ala => first | k_is | k_exc | kx_is)
    (case lla => first | k_is | k_exc | kx_is)
    (case cla => first | k_is | k_exc | kx_is)
    (case kla => first | k_is | k_exc | kx_is)
    (case hla => first | kernel_rfl | k_is)
    (case nla => first | kernel_rfl | k_is)
    (case aDi => first | k_is | k_exc | kx_is)
    (case iDi => first | k_is | k_exc | kx_is)
    (case lDi => first | k_is | k_exc | kx_is)
    (case cDi => first | k_is | k_exc | kx_is)
    (case kDi => first | k_is | k_exc | kx_is)
    (case aDc => first | k_is | k_exc | kx_is)
    (case iDc => first | k_is | k_exc | kx_is)
    (case lDc => first | k_is | k_exc | kx_is)
    (case cDc => first | k_is | k_exc | kx_is)
    (case kDc => first | k_is | k_exc | kx_is)
    (case aDp => first | k_is | k_exc | kx_is)
    (case iDp => first | k_is | k_exc | kx_is)
    (case lDp => first | k_is | k_exc | kx_is)
    (case cDp => first | k_is | k_exc | kx_is)
    (case kDp => first | k_is | k_exc | kx_is)
    (case aDg => first | k_is | k_exc | kx_is)
    (case iDg => first | k_is | k_exc | kx_is)
    (case lDg => first | k_is | k_exc | kx_is)
    (case cDg => first | k_is | k_exc | kx_is)
    (case kDg => first | k_is | k_exc | kx_is)
    (case aDh => first | k_is | k_exc | kx_is)
    (case iDh => first | k_is | k_exc | kx_is)
    (case lDh => first | k_is | k_exc | kx_is)
    (case cDh => first | k_is | k_exc | kx_is)
    (case kDh => first | k_is | k_exc | kx_is)
    (case aDo => first | k_is | k_exc | kx_is)
    (case iDo => first | k_is | k_exc | kx_is)
    (case lDo => first | k_is | k_exc | kx_is)
    (case cDo => first | k_is | k_exc | kx_is)
    (case kDo => first | k_is | k_exc | kx_is)
    (case aRi => first | k_is | k_exc | kx_is)
    (case iRi => first | k_is | k_exc | kx_is)
    (case lRi => first | k_is | k_exc | kx_is)
    (case cRi => first | k_is | k_exc | kx_is)
    (case kRi => first | k_is | k_exc | kx_is)
    (case aHi => first | k_is | k_exc | kx_is)
    (case iHi => first | k_is | k_exc | kx_is)
    (case lHi => first | k_is | k_exc | kx_is)
    (case cHi => first | k_is | k_exc | kx_is)
    (case kHi => first | k_is | k_exc | kx_is)
    (case aHk => first | k_is | k_exc | kx_is)
    (case iHk => first | k_is | k_exc | kx_is)
    (case lHk => first | k_is | k_exc | kx_is)
    (case cHk => first | k_is | k_exc | kx_is)
    (case kHk => first | k_is | k_exc | kx_is)
    (case aHc => first | k_is | k_exc | kx_is)
    (case iHc => first | k_is | k_exc | kx_is)
    (case lHc => first | k_is | k_exc | kx_is)
    (case cHc => first | k_is | k_exc | kx_is)
    (case kHc => first | k_is | k_exc | kx_is)
    (case aHs => first | k_is | k_exc | kx_is)
    (case iHs => first | k_is | k_exc | kx_is)
    (case lHs => first | k_is | k_exc | kx_is)
    (case cHs => first | k_is | k_exc | kx_is)
    (case kHs => first | k_is | k_exc | kx_is)
    (case aHo => first | k_is | k_exc | kx_is)
    (case iHo => first | k_is | k_exc | kx_is)
    (case lHo => first | k_is | k_exc | kx_is)
    (case cHo => first | k_is | k_exc | kx_is)
    (case kHo => first | k_is | k_exc | kx_is)
    (case aHp => first | k_is | k_exc | kx_is)
    (case iHp => first | k_is | k_exc | kx_is)
    (case lHp => first | k_is | k_exc | kx_is)
    (case cHp => first | k_is | k_exc | kx_is)
    (case kHp => first | k_is | k_exc | kx_is)
    (case aHb => first | k_is | k_exc | kx_is)
    (case iHb => first | k_is | k_exc | kx_is)
    (case lHb => first | k_is | k_exc | kx_is)
    (case cHb => first | k_is | k_exc | kx_is)
    (case kHb => first | k_is | k_exc | kx_is)
    (case aHd => first | k_is | k_exc | kx_is)
    (case gHd => first | k_is | k_exc | kx_is)
    (case tHd => first | k_is | k_exc | kx_is)
    (case rHd => first | k_is | k_exc | kx_is)
    (case lHd => first | k_is | k_exc | kx_is)
    (case cHd => first | k_is | k_exc | kx_is)
    (case kHd => first | k_is | k_exc | kx_is)
    (case aHh => first | k_is | k_exc | kx_is)
    (case gHh => first | k_is | k_exc | kx_is)
    (case tHh => first | k_is | k_exc | kx_is)
    (case rHh => first | k_is | k_exc | kx_is)
    (case lHh => first | k_is | k_exc | kx_is)
    (case cHh => first | k_is | k_exc | kx_is)
    (case kHh => first | k_is | k_exc | kx_is)
    (case aRo => first | k_is | k_exc | kx_is)
    (case rRo => first | k_is | k_exc | kx_is)
    (case lRo => first | k_is | k_exc | kx_is)
    (case cRo => first | k_is | k_exc | kx_is)
    (case kRo => first | k_is | k_exc | kx_is)
    (case fRo' => first | k_is | k_exc | kx_is)
    (case cr1 => first | k_is | k_exc | kx_is)
    (case cr2 => first | k_is | k_exc | kx_is)
    (case aRs => first | k_is | k_exc | kx_is)
    (case gRs => first | k_is | k_exc | kx_is)
    (case tRs => first | k_is | k_exc | kx_is)
    (case rRs => first | k_is | k_exc | kx_is)
    (case lRs => first | k_is | k_exc | kx_is)
    (case cRs => first | k_is | k_exc | kx_is)
    (case kRs => first | k_is | k_exc | kx_is)
    (case jDg => first | k_is | k_exc | kx_is)
    (case pgC => first | k_is | k_exc | kx_is)
    (case hdC => first | k_is | k_exc | kx_is)
    (case poC => first | k_is | k_exc | kx_is)
    (case saC => first | k_is | k_exc | kx_is)
    (case mkC => first | k_is | k_exc | kx_is)
    (case kcC => first | k_is | k_exc | kx_is)
    (case pgR => first | k_is | k_exc | kx_is)
    (case hdR => first | k_is | k_exc | kx_is)
    (case poR => first | k_is | k_exc | kx_is)
    (case saR => first | k_is | k_exc | kx_is)
    (case mkR => first | k_is | k_exc | kx_is)
    (case kcR => first | k_is | k_exc | kx_is)
    (case pgH => first | k_is | k_exc | kx_is)
    (case hdH => first | k_is | k_exc | kx_is)
    (case poH => first | k_is | k_exc | kx_is)
    (case saH => first | k_is | k_exc | kx_is)
    (case mkH => first | k_is | k_exc | kx_is)
    (case kcH => first | k_is | k_exc | kx_is)
    (case nC_sections => first | k_is | k_exc | kx_is)
    (case nC_paces => first | k_is | k_exc | kx_is)
    (case nC_ticks => first | k_is | k_exc | kx_is)
    (case nC_orders => first | k_is | k_exc | kx_is)
    (case nC_leaders => first | k_is | k_exc | kx_is)
    (case nH_name => first | k_is | k_exc | kx_is)
    (case nH_last_place => first | k_is | k_exc | kx_is)
    (case nH_candidates => first | k_is | k_exc | kx_is)
    (case nH_drives => first | k_is | k_exc | kx_is)
    (case nH_history => first | k_is | k_exc | kx_is)
    (case nR_sections => first | k_is | k_exc | kx_is)
    (case nR_units => first | k_is | k_exc | kx_is)
    (case z_isinstance => first | k_is | k_exc | kx_is)
    (case z_int => first | k_is | k_exc | kx_is)
    (case z_bool => first | k_is | k_exc | kx_is)
    (case z_str => first | k_is | k_exc | kx_is)
    (case z_tuple => first | k_is | k_exc | kx_is)
    (case z_len => first | k_is | k_exc | kx_is)
    (case z_all => first | k_is | k_exc | kx_is)
    (case z_enumerate => first | k_is | k_exc | kx_is)
    (case z_sorted => first | k_is | k_exc | kx_is)
    (case z_list => first | k_is | k_exc | kx_is)
    (case z_range => first | k_is | k_exc | kx_is)
    (case z_sum => first | k_is | k_exc | kx_is)
    (case z_max => first | k_is | k_exc | kx_is)
    (case z_set => first | k_is | k_exc | kx_is)
    (case z_zip => first | k_is | k_exc | kx_is)
    (case z_ValueError => first | k_is | k_exc | kx_is)
    (case v0 => first | k_is | k_exc | kx_is)
    (case v1 => first | k_is | k_exc | kx_is)
    (case v2 => first | k_is | k_exc | kx_is)
    (case v3 => first | k_is | k_exc | kx_is)
    (case v4 => first | k_is | k_exc | kx_is)
    (case v5 => first | k_is | k_exc | kx_is)
    (case v6 => first | k_is | k_exc | kx_is)
    (case aL => first | k_is | k_exc | kx_is)
    (case aK => first | k_is | k_exc | kx_is)
    (case dlN => exact ⟨_, _, _, by k_is, by (first | exact ⟨⟨_, _, rfl, rfl⟩, ⟨_, _, rfl, rfl⟩, trivial⟩ | (constructor; exact ⟨_, _, rfl, rfl⟩; constructor; exact ⟨_, _, rfl, rfl⟩; trivial)), by k_is, ⟨_, rfl⟩⟩)
    (case dlW => exact ⟨_, _, _, by k_is, by (first | exact ⟨⟨_, _, rfl, rfl⟩, ⟨_, _, rfl, rfl⟩, trivial⟩ | (constructor; exact ⟨_, _, rfl, rfl⟩; constructor; exact ⟨_, _, rfl, rfl⟩; trivial)), by k_is, ⟨_, rfl⟩⟩)
    (case dkN => exact ⟨_, _, _, by k_is, by (first | exact ⟨⟨_, _, rfl, rfl⟩, ⟨_, _, rfl, rfl⟩, trivial⟩ | (constructor; exact ⟨_, _, rfl, rfl⟩; constructor; exact ⟨_, _, rfl, rfl⟩; trivial)), by k_is, ⟨_, rfl⟩⟩)
    (case dkW => exact ⟨_, _, _, by k_is, by (first | exact ⟨⟨_, _, rfl, rfl⟩, ⟨_, _, rfl, rfl⟩, trivial⟩ | (constructor; exact ⟨_, _, rfl, rfl⟩; constructor; exact ⟨_, _, rfl, rfl⟩; trivial)), by k_is, ⟨_, rfl⟩⟩)
    (case kM => decide)
    (case eE => first | k_is | k_exc | kx_is)
    (case e0 => first | k_is | k_exc | kx_is)
    (case e1 => first | k_is | k_exc | kx_is)
    (case e2 => first | k_is | k_exc | kx_is)
    (case e3 => first | k_is | k_exc | kx_is)
    (case e4 => first | k_is | k_exc | kx_is)
    (case e5 => first | k_is | k_exc | kx_is)
    (case dEs => first | k_is | k_exc | kx_is)
    (case dEh => first | k_is | k_exc | kx_is)
    (case dEt => first | k_is | k_exc | kx_is)
    (case d0c => first | k_is | k_exc | kx_is)
    (case d0t => first | k_is | k_exc | kx_is)
    (case d1c => first | k_is | k_exc | kx_is)
    (case d1t => first | k_is | k_exc | kx_is)
    (case d2c => first | k_is | k_exc | kx_is)
    (case d2t => first | k_is | k_exc | kx_is)
    (case d3c => first | k_is | k_exc | kx_is)
    (case d3t => first | k_is | k_exc | kx_is)
    (case d4c => first | k_is | k_exc | kx_is)
    (case d4t => first | k_is | k_exc | kx_is)
    (case d5c => first | k_is | k_exc | kx_is)
    (case d5t => first | k_is | k_exc | kx_is)
    (case r3cl => first | k_is | k_exc | kx_is)
    (case r3ga => first | k_is | k_exc | kx_is)
    (case r3gg => first | k_is | k_exc | kx_is)
    (case r3sb => first | k_is | k_exc | kx_is)
    (case r3hd => first | k_is | k_exc | kx_is)
    (case r3ct => first | k_is | k_exc | kx_is)
    (case r3mr => first | k_is | k_exc | kx_is)
    (case r3ix => first | k_is | k_exc | kx_is)
    (case r3nm => first | k_is | k_exc | kx_is)
    (case r3xe => first | k_is | k_exc | kx_is)
    (case r3kv => first | k_is | k_exc | kx_is)
    (case r3k0 => first | k_is | k_exc | kx_is)
    (case r3k1 => first | k_is | k_exc | kx_is)
    (case r3k2 => first | k_is | k_exc | kx_is)
    (case r3k3 => first | k_is | k_exc | kx_is)
    (case r3k4 => first | k_is | k_exc | kx_is)
    (case r3k5 => first | k_is | k_exc | kx_is)
    (case qhn => first | k_is | k_exc | kx_is)
    (case qht => first | k_is | k_exc | kx_is)
    (case n3q => first | k_is | k_exc | kx_is)
    (case n3k => first | k_is | k_exc | kx_is)
    (case n3t => first | k_is | k_exc | kx_is)
    (case neP01 => decide)
    (case neP02 => decide)
    (case neP12 => decide)
    (case hT => intro P hP; exact hT8 P (by rcases List.mem_cons.mp hP with z | hP; (rw [z]; k_mem); (rcases List.mem_cons.mp hP with z | hP; (rw [z]; k_mem); (rw [List.mem_singleton.mp hP]; k_mem))))
