import PyProof.Rows.All
import Wide.All
import OpenK.AllK
import Wide.FinOn
import HandS.Base
import HandS.Call
import HandS.List
import HandS.Comp
import HandS.Dict
import HandS.More
import HandS.Words
import HandS.Strs
import HandS.TupAny
import KE.DataFind
import KE.Datum
import KE.GoesMore
import KE.GoesComp
import HandS.ForMost
import HandS.IsInst
import HandS.Wide
import HandS.Style
import HandS.Walk
import HandS.Evl
import PyProof.Rows.SetFrom
import PyProof.GenCompT
import PyProof.TupleOfGen
import HandS.AnyAll
import KE.KDictPairs
import HandS.GenOver
import PyProof.Rows.Chain
import PyProof.FactsAll.subtypes_4
import HandS.Text
import HandS.GenList
import HandS.SortRule
import PyProof.Rows.SumGenD
import HandS.SetFor
import HandS.Lambda
import HandS.Flow
import HandS.Rev
import HandS.Conv
import HandS.EndTab
import HandS.HeadWalk
import HandS.HeadHook4
import HandS.Head2
import HandS.HeadEnd
import PySem.Challenge.RW_laidontop_k01_piles_and_wants_known
set_option Elab.async false
set_option linter.all false
set_option maxRecDepth 100000
set_option maxHeartbeats 4000000
/-! Rules for what this text needs beside the hand layer's: a text taken out of a list, a tuple of texts sorted, a dict of a constant over tuple keys, methods of tuples. -/
namespace Lt
open PySem PySem.Spec PyProof.Rows L2

theorem erase_map {a b : Type} (f : a → b) : ∀ (l : List a) (j : Nat), (l.map f).eraseIdx j = (l.eraseIdx j).map f
  | [], j => by simp
  | x :: r, 0 => by simp
  | x :: r, j + 1 => by simp [erase_map f r j]
theorem txts_data {K : PySem.W.Frag} {H : Hp} : ∀ ss : List Str, DpAll K H (ss.map V.str) (ss.map PySem.W.Datum.toD)
  | [] => .nil
  | x :: r => .cons (.str x) (txts_data r)
section
variable {X : Cx}
def rRemS : V → List V → Hp → VK → Prop := fun x xs H Q => ∃ (l : Addr) (ss : List Str) (z : Str) (j : Nat),
  x = .ref l ∧ xs = [.str z] ∧ H l = some (.lst (ss.map V.str)) ∧ ss[j]? = some z ∧ (∀ m : Nat, m < j → ss[m]? ≠ some z) ∧
  Q .non (upd H l (.lst ((ss.eraseIdx j).map V.str)))
/-- xs.remove(y), texts: the first place of y goes -/
theorem mt_removeS (hu : X.A.units + 1 < cLine) : MtM X "list.remove" rRemS := by
  rintro pins s σ H _ _ v us Q inv relx relxs ⟨l, ss, z, j, rfl, rfl, hH, hj, hno, q⟩
  cases relx
  obtain ⟨_, rfl, t, rfl⟩ := relxs.one
  obtain ⟨hz, its, n, vals, hl, ho⟩ := inv.lstM hH
  have isl : s.heap.IsList l its.toArray := ⟨_, ho, rfl, n, rfl⟩
  obtain ⟨as, rds⟩ := Dp.readsAll inv (ss.map PySem.W.Datum.toD) (ss.map V.str) its (txts_data ss) vals
  have gone := vals.eraseIdx j
  rw [erase_map] at gone
  rw [List.length_map] at hz hl
  refine PySem.W.remove_list_datum (xs := ss) (x := z) isl ⟨as, by simpa using rds⟩ ⟨_, Reads.str z t⟩ (show X.A.units + 1 + 0 < cLine from hu) hj hno (by rw [List.size_toArray]; omega)
    ⟨.non, _, inv.lset (its' := its.eraseIdx j) (t' := s.toks) hH ho (by simp) gone ?_, rfl, q⟩
  have le := List.length_eraseIdx_le ss j
  rw [List.length_map]
  omega
/-- sorted(t), t a tuple of fewer than 64 texts -/
def rSortedT (K : PySem.W.Frag) : List V → Hp → VK → Prop := fun vs H Q => ∃ (a : Addr) (xs : List Str), vs = [V.ref a] ∧ SqT K H a (xs.map V.str) ∧ xs.length < 64 ∧
  ∀ (ys : List Str) (p : Addr), ys.Perm xs → sortedS ys = true → H p = none →
    Q (.ref p) (upd H p (.lst (ys.map V.str)))
theorem cr_sortedT : CallR X (.builtin "sorted") (rSortedT X.K) := by
  rintro pins s σ H _ us Q inv rel ⟨a, xs, rfl, sq, few, q⟩
  rw [Vals.ref1 rel]
  obtain ⟨its, vals, ⟨o, ho, hc, n, hd⟩, _⟩ := inv.tuple sq
  have len : its.length = xs.length := by rw [← vals.length, List.length_map]
  have txt : StrsAre its xs := vals.strs
  have fits : its.length ≤ sizeLine := Nat.le_trans (Nat.le_of_lt (len ▸ few)) (by decide)
  refine Calls.call_function_entry kind_sorted plain_sorted entry_sorted (args_sorted1 _) (wpAny_bind (m := checkCount "sorted" 1 1 _) (wpAny_pure
    (wpAny_bind (wpAny_collect_seq a (.inr rfl) ho hc hd (fun h1 kept => ?_) (by rw [List.size_toArray]; exact fits)))))
  have back : its.toArray.toList = its := by simp
  rw [back]
  refine wpAny_bind (wpAny_newList ?_ fits)
  have lst : (h1.push (seqObj "list" its.toArray 0)).get? h1.objs.size = some (seqObj "list" its.toArray 0) := Heap.get?_push_size _ rfl
  have inv1 : Inv X pins σ H { s with heap := h1 } := inv.kept (t' := s.toks) kept
  show wpAny _ _ _ _ _ { s with heap := h1.push (seqObj "list" its.toArray 0) }
  refine wpAny_bind (wpAny_holding (wpAny_call_entry slot_list_sort ⟨_, lst, rfl⟩ entry_list_sort (list_sort_treeK strKind_oneLt (s := { s with heap := h1.push (seqObj "list" its.toArray 0) }) lst txt.keysOf
    (fun v1 v2 rest e => keyKind_strs (by rw [← e]; exact txt)) (len ▸ few) fun st perm ord => ⟨_, rfl, ?_⟩) (args_list_sort _)))
  obtain ⟨ys, are, permS, ordS⟩ := sorted_out_str txt perm ord
  obtain ⟨ep, at1⟩ := sortedHeap_at (vs := its) (out := (arrOf st).map (·.2)) lst
  have lys : (ys.map V.str).length ≤ sizeLine := by
    rw [List.length_map, permS.length_eq]
    exact small64 few
  refine wpAny_pure ⟨_, rfl, .ref h1.objs.size, _, inv1.laid (t' := s.toks) (fun b u e => ?_) (Nat.le_refl _) (show ObjOk X.prog X.w _ _ _ (.lst (ys.map V.str)) from ⟨lys, _, ep, vals_of_strs are, by rw [Array.toArray_toList]; exact at1⟩), rfl,
    q ys _ permS ordS (inv1.hok.fresh (Nat.le_refl _))⟩
  have lt : b < h1.objs.size := Heap.lt_size e
  rw [sortedHeap_old (Nat.ne_of_lt lt) (by rw [size_push']; exact Nat.lt_succ_of_lt lt)]
  exact Heap.get?_push_of_some _ e
end
/-! ### {x: c for x in rows}, the rows tuples of ints and texts: over the library's DictComp_goes -/
def consts (c : Int) (ks : List (List Key)) : List (List Key × V) := ks.foldl (fun acc k => putK acc k (.int c)) []
theorem consts_snoc (c : Int) (ks : List (List Key)) (k : List Key) : consts c (ks ++ [k]) = putK (consts c ks) k (.int c) := by
  unfold consts
  rw [List.foldl_append]
  rfl
theorem consts_len (c : Int) (ks : List (List Key)) : (consts c ks).length ≤ ks.length := by
  have key : ∀ (ks : List (List Key)) (acc : List (List Key × V)), (ks.foldl (fun acc k => putK acc k (V.int c)) acc).length ≤ acc.length + ks.length := by
    intro ks
    induction ks with
    | nil => intro acc; exact Nat.le_refl _
    | cons k r ih =>
      intro acc
      have z := ih (putK acc k (.int c))
      have z2 := length_putK acc k (V.int c)
      rw [List.foldl_cons, List.length_cons]
      omega
  have z := key ks []
  rw [List.length_nil, Nat.zero_add] at z
  exact z
theorem consts_val (c : Int) (ks : List (List Key)) : ∀ k ∈ ks, valV (consts c ks) k = some (.int c) := by
  have key : ∀ (ks : List (List Key)) (acc : List (List Key × V)) (k : List Key), (k ∈ ks ∨ valV acc k = some (V.int c)) → valV (ks.foldl (fun acc k => putK acc k (V.int c)) acc) k = some (V.int c) := by
    intro ks
    induction ks with
    | nil =>
      intro acc k h
      rcases h with h | h
      · cases h
      · exact h
    | cons x r ih =>
      intro acc k h
      rw [List.foldl_cons]
      refine ih _ k ?_
      rw [valV_put]
      by_cases e : k = x
      · exact .inr (if_pos e)
      · rw [if_neg e]
        rcases h with h | h
        · exact .inl ((List.mem_cons.mp h).resolve_left e)
        · exact .inr h
  exact fun k hk => key ks [] k (.inl hk)
theorem keys_all {H : Hp} : ∀ {ls : List (List Key × V)} {ms : List (List Key × Addr × Value)}, KT H ls ms → ∀ z ∈ ms, H z.2.1 = some (.tup (z.1.map kV))
  | _, _, .nil, z, hz => by cases hz
  | _, _, .cons h t, z, hz => by
    rcases List.mem_cons.mp hz with rfl | hz
    · rw [← h.1]
      exact h.2.1
    · exact keys_all t z hz
/-- a dict's entries as they stand at D -/
def Raw (P : Program) (w : World) (h : Heap) (D : Addr) (xs : List (List Key × Addr × Value)) : Prop :=
  ∃ o es ep, h.get? D = some o ∧ o.ExactDict ∧ o.data = .dict es ep ∧ es.toList = xs.map (entryOfKey (tupleKind (mixKind P w))) ∧ (xs.map (·.1)).Nodup
theorem Raw.at {P : Program} {w : World} {h h' : Heap} {D : Addr} {xs : List (List Key × Addr × Value)} (r : Raw P w h D xs) (k : ∀ o, h.get? D = some o → h'.get? D = some o) : Raw P w h' D xs := by
  obtain ⟨o, es, ep, a1, a2⟩ := r
  exact ⟨o, es, ep, k o a1, a2⟩
theorem Raw.dict {P : Program} {w : World} {h h0 : Heap} {H : Hp} {D : Addr} {ls : List (List Key × V)} {xs : List (List Key × Addr × Value)} (r : Raw P w h D xs) (ok : HOk P w H h0) (kp : ∀ b o, h0.get? b = some o → h.get? b = some o) (kt : KT H ls xs) :
    h.DictOfH (tupleKind (mixKind P w)) D xs := by
  obtain ⟨o, es, ep, a1, a2, a3, a4, a5⟩ := r
  refine ⟨o, es, ep, a1, a2, a3, a4, fun z hz => ?_, a5⟩
  obtain ⟨ob, its, n, b1, b2⟩ := key_of ok (keys_all kt z hz)
  exact ⟨ob, its, n, kp _ ob b1, b2⟩
theorem below {b N C : Nat} (hb : b < N) (hC : N + 1 ≤ C) : b ≠ C ∧ b ≠ N := by omega
section
variable {X : Cx}
def tDcK (K : PySem.W.Frag) (c : Int) (te : TE) : TE := fun σ H Q => te σ H fun v H1 => ∃ (l : Addr) (ts : List Addr) (ks : List (List Key)), v = .ref l ∧ SqL K H1 l (ts.map V.ref) ∧ ts.length = ks.length ∧
  (∀ (i : Nat) (t : Addr) (k : List Key), ts[i]? = some t → ks[i]? = some k → H1 t = some (.tup (k.map kV))) ∧ ks.length ≤ 1000 ∧ ∀ D, H1 D = none → Q (.ref D) (upd H1 D (.dT (consts c ks)))
theorem pe_dcK {x : Str} {c : Int} {jc : Nat} {px pk pc pos : Pos} {iter : Expr} {scope : Scope} {te : TE} (hu : X.A.units + 1 < cLine) (hcalm : X.calm = true) (he : PE X iter te)
    (names : scope.names.all (fun y => y.2 == .local) = true) (uniq : ∀ y ∈ scope.names, y.2 = .local → scope.names.lookup y.1 = some .local) (hx : scope.names.lookup x = some .local) (hkind : scope.kind = .function)
    (hdb : (x == ("__debug__" : Str)) = false := by decide) (hs : ∀ x, foldedSetIterable iter X.env x = pure x := by intro _; rfl) :
    PE X (.DictComp (.Name x pk) (.Constant (.int c) jc pc) [⟨.Name x px, iter, [], 0⟩] scope pos) (tDcK X.K c te) := by
  refine ⟨fun pins s σ H Q inv h => ?_⟩
  have loc : ∀ y ∈ scope.names, y.2 = .local := fun y hy => by simpa using List.all_eq_true.mp names y hy
  have calm := inv.ok.hd hcalm
  refine DictComp_goes (closure_ok fun y hy e => by rw [loc y hy] at e; cases e) (fun y hy e => by rw [loc y hy] at e; cases e) hkind uniq
    (thn (he.run pins s σ H _ inv h) fun xv s1 ⟨v, H1, inv1, rel, l, ts, ks, ev, sq, len, keys, small, q⟩ => ?_) hs
  subst ev
  cases rel
  obtain ⟨its, vals, pl, _⟩ := inv1.list sq
  have hlt : (l : Nat) < s1.heap.objs.size := by
    obtain ⟨o, ho, _⟩ := pl.isList
    exact Heap.lt_size ho
  refine wpAny_pyIter_list pl.isList ⟨_, _, _, _, _, _, rfl, Goes.list calm s1.heap.objs.size l (Nat.ne_of_lt hlt) its.toArray, ⟨⟨_, Heap.get?_push_size _ rfl, rfl, rfl⟩, pl.isList.push _⟩, fun D C s3 begins empty => ?_⟩
  obtain ⟨⟨h3, tk3, rfl⟩, old, newD, newC, ne, ns0⟩ := begins
  have gC : (s1.heap.objs.size + 1 : Nat) ≤ C := by
    have z : (s1.heap.push { cls := .type "list_iterator", data := .fields #[.ref l, .int 0 0] }).objs.size ≤ C := newC
    rwa [Heap.size_push] at z
  have gD : (s1.heap.objs.size + 1 : Nat) ≤ D := by
    have z : (s1.heap.push { cls := .type "list_iterator", data := .fields #[.ref l, .int 0 0] }).objs.size ≤ D := newD
    rwa [Heap.size_push] at z
  have gD' : s1.heap.objs.size ≤ D := Nat.le_trans (Nat.le_succ _) gD
  have freeD : H1 D = none := inv1.hok.fresh gD'
  have kx : ∀ cl, (compEnvC scope cl C X.env).kindOf x = some .local := fun cl => lookup_relabel_local hx
  have plain : ∀ cl, ((compEnvC scope cl C X.env).scope.kind == .class || ((compEnvC scope cl C X.env).scope.kind == .module && (compEnvC scope cl C X.env).locals != (compEnvC scope cl C X.env).globals)) = false := fun cl => by
    show (scope.kind == .class || (scope.kind == .module && _)) = false
    rw [hkind]
    rfl
  have lits : its.length = ts.length := by rw [← vals.length, List.length_map]
  have lit : ∀ (i : Nat) (u : Value), its.toArray[i]? = some u → ∃ t k, u = .ref t ∧ ks[i]? = some k ∧ H1 t = some (.tup (k.map kV)) := fun i u e => by
    have e' : its[i]? = some u := by simpa using e
    have hi : i < ts.length := by
      rw [← lits]
      exact (List.getElem?_eq_some_iff.mp e').1
    obtain ⟨u2, g1, g2⟩ := vals.get (i := i) (x := .ref ts[i]) (by simp [hi])
    rw [e'] at g1
    cases g1
    exact ⟨ts[i], ks[i]'(by omega), g2, List.getElem?_eq_getElem (by omega), keys i _ _ (List.getElem?_eq_getElem hi) (List.getElem?_eq_getElem (by omega))⟩
  have isz : its.toArray.size = ks.length := by rw [List.size_toArray, lits, len]
  refine ⟨fun i sv => ∃ (h' : Heap) (tk : Nat) (m : Str → Option Value) (xs : List (List Key × Addr × Value)), sv = { s1 with heap := h', toks := tk } ∧ h'.Ns C m ∧ Raw X.prog X.w h' D xs ∧ KT H1 (consts c (ks.take i)) xs ∧
      ∀ b o, s1.heap.get? b = some o → h'.get? b = some o,
    ⟨h3, tk3, _, [], rfl, ns0, ⟨_, #[], 0, empty, ⟨rfl, rfl, rfl⟩, rfl, rfl, List.nodup_nil⟩, .nil, fun b o e => old b o (Heap.get?_push_of_some _ e)⟩, ?_, ?_, ?_⟩
  · rintro i _ h' tk ⟨h4, tk4, m, xs, rfl, ns, dd, kt, kp⟩ keeps _
    have off : ∀ b : Addr, b ≠ s1.heap.objs.size → b ∉ [s1.heap.objs.size] := fun b hb hm => hb (by simpa using hm)
    have nC : C ≠ s1.heap.objs.size := Nat.ne_of_gt gC
    have nD : D ≠ s1.heap.objs.size := Nat.ne_of_gt gD
    exact ⟨h', tk, m, xs, rfl, ns.at' fun o e => keeps _ o (off _ nC) e, dd.at fun o e => keeps _ o (off _ nD) e, kt, fun b o e => keeps b o (off b (Nat.ne_of_lt (Heap.lt_size e))) (kp b o e)⟩
  · rintro i v _ hi hv st ⟨h4, tk4, m, xs, rfl, ns, dd, kt, kp⟩
    obtain ⟨t, k, rfl, ek, hk⟩ := lit i v hv
    refine wpAny_assign_Name (wpAny_storeName_local (kx _) ns (fun h5 ns5 same5 => ?_) (plain _))
    refine wpAny_tests_nil ?_
    show wpAny _ _ _ _ _ _
    rw [eval_Name _ _ _ hdb]
    refine wpAny_bind (wpAny_standAt (wpAny_loadName_local hkind (kx _) ns5 (v := .ref t) (if_pos rfl) (wpAny_Constant_int ?_)))
    have up5 : ∀ b o, b ≠ C → h4.get? b = some o → h5.get? b = some o := fun b o hb e => same5.extBut b o hb e
    have oldC : ∀ b o, s1.heap.get? b = some o → b ≠ C := fun b o e => (below (Heap.lt_size e) gC).1
    have kp5 : ∀ b o, s1.heap.get? b = some o → h5.get? b = some o := fun b o e => up5 b o (oldC b o e) (kp b o e)
    have dd5 := (dd.at fun o e => up5 D o ne e).dict inv1.hok kp5 kt
    have room : (tupleKind (mixKind X.prog X.w)).room X.A := Nat.lt_trans (Nat.lt_succ_self _) hu
    have isk : (tupleKind (mixKind X.prog X.w)).is h5 k t := by
      obtain ⟨ob, its2, n2, b1, b2⟩ := key_of inv1.hok hk
      exact ⟨ob, its2, n2, kp5 _ ob b1, b2⟩
    have lxs : xs.length ≤ sizeLine := by
      rw [← Paired.length kt]
      have z := consts_len c (ks.take i)
      rw [List.length_take] at z
      exact Nat.le_of_lt (small1000 (by omega))
    refine wpAny_dictSet_heap (hsz := lxs) room isk dd5 fun h6 dd6 same6 => ?_
    have step : consts c (ks.take (i + 1)) = putK (consts c (ks.take i)) k (.int c) := by
      rw [List.take_add_one, ek]
      exact consts_snoc c _ k
    have keep6 : ∀ b o, b ≠ D → h5.get? b = some o → h6.get? b = some o := fun b o hb e => (same6.2 b hb).trans e
    have oldD : ∀ b o, s1.heap.get? b = some o → b ≠ D := fun b o e => (below (Heap.lt_size e) gD).1
    obtain ⟨o6, es6, ep6, c1, c2, c3, c4, _, c6⟩ := dd6
    refine ⟨⟨h6, _, _, _, rfl, ns5.at' fun o e => keep6 _ o ne.symm e, ⟨o6, es6, ep6, c1, c2, c3, c4, c6⟩, ?_, fun b o e => keep6 b o (oldD b o e) (kp5 b o e)⟩, ?_⟩
    · rw [step]
      exact kt.put k hk ⟨_, rfl⟩
    · have nI : s1.heap.objs.size ≠ C := (Nat.ne_of_gt gC).symm
      have nI2 : s1.heap.objs.size ≠ D := (Nat.ne_of_gt gD).symm
      have nl := below hlt gC
      have nl2 := below hlt gD
      exact ⟨st.1.at fun o e => keep6 _ o nI2 (up5 _ o nI e), st.2.at fun o e => keep6 _ o nl2.1 (up5 _ o nl.1 e)⟩
  · rintro _ ⟨h4, tk4, m, xs, rfl, ns, dd, kt, kp⟩
    refine ⟨m, ns, fun h' same => ?_⟩
    have kp' : ∀ b o, s1.heap.get? b = some o → h'.get? b = some o := fun b o e => same.extBut b o (below (Heap.lt_size e) gC).1 (kp b o e)
    rw [isz, List.take_length] at kt
    have fit : (consts c ks).length ≤ sizeLine := Nat.le_of_lt (small1000 (Nat.le_trans (consts_len c ks) small))
    have sys : (D == sysModules) = false := beq_eq_false_iff_ne.mpr (Nat.ne_of_gt (Nat.lt_of_lt_of_le inv1.big gD'))
    obtain ⟨o, es, ep, a1, a2, a3, a4, a5⟩ := dd.at (h' := h') fun o e => same.extBut _ o ne e
    exact ⟨.ref D, _, inv1.laid (t' := tk4) kp' gD' (show ObjOk X.prog X.w _ h' D (.dT (consts c ks)) from ⟨fit, sys, xs, kt.keeps fun b ys e => by rw [upd_ne (ne_of_none e freeD)]; exact e, o, es, ep, a1, a2, a3, a4, a5⟩), rfl, q D freeD⟩
end
/-! ### tuples whose object is known to have no dict: their methods can be called -/
section
def IsFz (u : HO) (xs : List V) : Prop := ∃ o : Obj, u = .frz o (.tup xs) ∧ o.cls = .type "tuple" ∧ o.dict = none
def TpO (H : Hp) (a : Addr) (xs : List V) : Prop := ∃ u, H a = some u ∧ IsFz u xs
theorem TpO.sqt {K : PySem.W.Frag} {H : Hp} {a : Addr} {xs : List V} (h : TpO H a xs) : SqT K H a xs := by
  obtain ⟨u, h1, o, rfl, _⟩ := h
  exact .inl (.inr ⟨o, h1⟩)
theorem TpO.ne {H : Hp} {a b : Addr} {xs : List V} {v : HO} (h : TpO H a xs) (h' : H b = some v) (d : ∀ o : Obj, v ≠ .frz o (.tup xs)) : a ≠ b := by
  obtain ⟨u, h1, o, rfl, _⟩ := h
  exact ne_of h1 h' fun z => d o z.symm
theorem TpO.new {H : Hp} {a : Addr} {xs : List V} {u : HO} (h : IsFz u xs) : TpO (upd H a u) a xs := ⟨u, upd_same, h⟩
theorem TpO.taken {H : Hp} {a b : Addr} {xs : List V} (h : TpO H a xs) (n : H b = none) : a ≠ b := by
  obtain ⟨u, h1, _⟩ := h
  exact ne_of_none h1 n
theorem TpO.move {H H' : Hp} {a : Addr} {xs : List V} (h : TpO H a xs) (e : ∀ u, H a = some u → H' a = some u) : TpO H' a xs := by
  obtain ⟨u, h1, h2⟩ := h
  exact ⟨u, e u h1, h2⟩
variable {X : Cx}
/-- a new tuple is laid where nothing stood: what is known of it -/
theorem laid_fz {pins : List (Addr × Obj)} {σ : L2.St} {H : Hp} {s : Shared} {h' : Heap} {Q : VK} {xs : List V} {us : List Value} (inv : Inv X pins σ H { s with heap := h' }) (vals : Vals xs us) (fit : xs.length ≤ sizeLine)
    (q : ∀ p u, H p = none → IsFz u xs → Q (.ref p) (upd H p u)) : EP X pins σ Q (.ref h'.objs.size) { s with heap := h'.push { cls := .type "tuple", data := .seq us.toArray } } := by
  have at1 : (h'.push { cls := .type "tuple", data := .seq us.toArray }).get? h'.objs.size = some { cls := .type "tuple", data := .seq us.toArray } := Heap.get?_push_size _ rfl
  refine ⟨.ref h'.objs.size, _, inv.laid (t' := s.toks) (fun b u e => Heap.get?_push_of_some _ e) (Nat.le_refl _) ?_, rfl, q _ (.frz { cls := .type "tuple", data := .seq us.toArray } (.tup xs)) (inv.hok.fresh (Nat.le_refl _)) ⟨_, rfl, rfl, rfl⟩⟩
  exact ⟨at1, fit, us, vals, _, at1, rfl, _, rfl⟩
def tTupZ (t : TA) : TE := fun σ H Q => t σ H fun xs H1 => xs.length ≤ sizeLine ∧ ∀ p u, H1 p = none → IsFz u xs → Q (.ref p) (upd H1 p u)
theorem pe_tupZ {x1} {es : List Expr} {t : TA} {pos : Pos} (h : PA X es t) : PE X (.Tuple es x1 pos) (tTupZ t) :=
  ⟨fun pins s σ H Q inv hq => wpAny_Tuple_spliced (thn (h.run pos pins s σ H _ inv hq) fun us s1 ⟨xs, H1, inv1, vals, fit, q⟩ => ⟨vals.length ▸ fit, laid_fz (s := s1) inv1 vals fit q⟩)⟩
def rCatZ (K : PySem.W.Frag) : R2 := fun x y H Q => ∃ a b xs ys, x = .ref a ∧ y = .ref b ∧ SqT K H a xs ∧ SqT K H b ys ∧ xs ≠ [] ∧ xs.length + ys.length ≤ sizeLine ∧
  (ys = [] → Q (.ref a) H) ∧ (ys ≠ [] → ∀ p u, H p = none → IsFz u (xs ++ ys) → Q (.ref p) (upd H p u))
theorem op_catZ : OpR X (binaryOp .Add) (rCatZ X.K) := by
  rintro pins s σ H _ _ v u Q inv relx rely ⟨a, b, xs, ys, rfl, rfl, sa, sb, some1, fit, same, new⟩
  cases relx
  cases rely
  obtain ⟨us, valsA, tupA, _⟩ := inv.tuple sa
  obtain ⟨ws, valsB, tupB, _⟩ := inv.tuple sb
  exact HT.cat_tup tupA tupB (fun e => some1 (valsA.nil_iff.mp e)) (fun e => ⟨.ref a, H, inv, rfl, same (valsB.nil_iff.mp e)⟩)
    (fun e => laid_fz (s := s) inv (valsA.append valsB) (by rw [List.length_append]; exact fit) (new fun w => e (valsB.nil_iff.mpr w))) (by rw [← valsA.length, ← valsB.length]; exact fit)
def rTupZ (K : PySem.W.Frag) : List V → Hp → VK → Prop := fun xs H Q => ∃ p ys, xs = [.ref p] ∧ SqL K H p ys ∧ ∀ l u, H l = none → IsFz u ys → Q (.ref l) (upd H l u)
theorem call_tupleZ : CallR X (.type "tuple") (rTupZ X.K) := by
  rintro pins s σ H _ us Q inv rel ⟨p, ys, rfl, sq, q⟩
  rw [Vals.ref1 rel]
  obtain ⟨its, vals, pl, fit⟩ := inv.list sq
  exact call_tuple_list pl.isList (fun h' kp => laid_fz (s := s) (inv.kept (t' := s.toks) kp) vals fit q) (by rw [List.size_toArray, ← vals.length]; exact fit)
def tTM (r : V → List V → Hp → VK → Prop) (to : TE) (t : TA) : TE := fun σ H Q => to σ H fun x H1 => (∃ a xs, x = .ref a ∧ TpO H1 a xs) ∧ t σ H1 fun xs H2 => r x xs H2 Q
/-- t.m(e, ..), t such a tuple -/
theorem pe_tm {o e : Expr} {es : List Expr} {to : TE} {t : TA} {name : Str} {apos cpos : Pos} {id : String} {r : V → List V → Hp → VK → Prop} (slot : Slot "tuple" name id)
    (hty : typeOf (.builtin id) = pure (.type "method_descriptor")) (hm : MtR X id r) (ho : PE X o to) (ha : PA X (e :: es) t)
    (h1 : attributeBase o name X.env (eval o X.env) = eval o X.env := by rfl)
    (h2 : ((backTo cpos (starEach (e :: es) X.env)).all (fun x => !x.1) && (backToKw cpos (keywordEach [] X.env)).all (fun x => x.1.isSome) && decide ((e :: es).length + ([] : List Keyword).length + (if ([] : List Keyword).isEmpty then 0 else 1) < 30)) = true := by rfl)
    (h3 : (apos.endLine == cpos.line) = true := by rfl) (h4 : starEach (e :: es) X.env = (false, eval e X.env) :: starEach es X.env := by rfl)
    (h5 : (backTo cpos (starEach es X.env)).any (·.1) = false := by rfl) : PE X (.Call (.Attribute o name apos) (e :: es) [] cpos) (tTM r to t) := by
  refine ⟨fun pins s σ H Q inv h => wpAny_Call_method_late h1 h2 h3 rfl (thn (ho.run pins s σ H _ inv h) fun v s1 ⟨x, H1, inv1, rel, ty, q1⟩ => ?_)⟩
  obtain ⟨a, xs, rfl, _, hu, ob, rfl, hc, hd⟩ := ty
  cases rel
  have stands : s1.heap.get? a = some ob := (inv1.hok a _ hu).1
  have args := ha.run cpos pins s1 σ H1 _ inv1 q1
  rw [h4] at args
  refine ⟨"tuple", id, PySem.F.plainAttrs_tuple, slot, hty, ⟨ob, stands, hc⟩, fun b e => by cases e; exact ⟨ob, stands, hd⟩, ?_⟩
  rw [h4]
  have plain : ((false, eval e X.env) :: backTo cpos (starEach es X.env)).any (·.1) = false := by rw [List.any_cons, h5]; rfl
  exact Calls.callWith_builtin plain (Calls.evalArgs_plain (thn args fun us s2 ⟨vs, H2, inv2, rels, q2⟩ => hm pins s2 σ H2 (.ref a) vs _ us Q inv2 rfl rels q2))
end
end Lt

set_option Elab.async false
set_option linter.all false
set_option maxRecDepth 100000
set_option maxHeartbeats 4000000
namespace Lt
open PySem PySem.Spec PyProof.Rows L2
/-! ### heaps -/
theorem same_new {H : Hp} {p : Addr} (h : H p = none) (o : HO) : Same H (upd H p o) := fun b u q => by
  rw [upd_ne (ne_of_none q h)]
  exact q
theorem same_put {H H' : Hp} {p : Addr} {o : HO} (s : Same H H') (h : H p = none) : Same H (upd H' p o) := fun b u q => by
  rw [upd_ne (ne_of_none q h)]
  exact s _ _ q
theorem same_tup {K : PySem.W.Frag} {H H' : Hp} {a : Addr} {xs : List V} (e : Same H H') (h : SqT K H a xs) : SqT K H' a xs := by
  rcases h with (h | ⟨o, h⟩) | h
  · exact .inl (.inl (e _ _ h))
  · exact .inl (.inr ⟨o, e _ _ h⟩)
  · exact .inr h
theorem sqt {K : PySem.W.Frag} {H : Hp} {a : Addr} {xs : List V} (h : H a = some (.tup xs)) : SqT K H a xs := .inl (.inl h)
theorem sql {K : PySem.W.Frag} {H : Hp} {a : Addr} {xs : List V} (h : H a = some (.lst xs)) : SqL K H a xs := .inl (.inl h)
/-- all but what stands at T is as it was -/
def SameT (T : Addr) (H H' : Hp) : Prop := ∀ b o, b ≠ T → H b = some o → H' b = some o
theorem SameT.refl (T : Addr) (H : Hp) : SameT T H H := fun _ _ _ h => h
theorem SameT.trans {T : Addr} {H H1 H2 : Hp} (a : SameT T H H1) (b : SameT T H1 H2) : SameT T H H2 := fun c o n h => b c o n (a c o n h)
theorem SameT.of {T : Addr} {H H' : Hp} (s : Same H H') : SameT T H H' := fun c o _ h => s c o h
theorem SameT.free {T : Addr} {H H' : Hp} (e : SameT T H H') {l : Addr} (hl : l ≠ T) (h : H' l = none) : H l = none := by
  cases q : H l with
  | none => rfl
  | some o =>
    rw [e l o hl q] at h
    cases h
mutual
theorem dp_same {K : PySem.W.Frag} {H H' : Hp} (e : Same H H') : ∀ {v : V} {d : PyData}, Dp K H v d → Dp K H' v d
  | _, _, .non => .non
  | _, _, .bl b => .bl b
  | _, _, .int i => .int i
  | _, _, .str x => .str x
  | _, _, .lst h a => .lst (e.seq h) (dpAll_same e a)
  | _, _, .tup h a => .tup (same_tup e h) (dpAll_same e a)
theorem dpAll_same {K : PySem.W.Frag} {H H' : Hp} (e : Same H H') : ∀ {vs : List V} {ds : List PyData}, DpAll K H vs ds → DpAll K H' vs ds
  | _, _, .nil => .nil
  | _, _, .cons h t => .cons (dp_same e h) (dpAll_same e t)
end
theorem dpAll_strs {K : PySem.W.Frag} {H : Hp} : ∀ ss : List Str, DpAll K H (ss.map V.str) (ss.map PyData.str)
  | [] => .nil
  | x :: r => .cons (.str x) (dpAll_strs r)
theorem dpAll_ints {K : PySem.W.Frag} {H : Hp} : ∀ ns : List Int, DpAll K H (ns.map V.int) (ns.map PyData.int)
  | [] => .nil
  | x :: r => .cons (.int x) (dpAll_ints r)
theorem dpAll_snoc {K : PySem.W.Frag} {H : Hp} : ∀ {vs : List V} {ds : List PyData} {v : V} {d : PyData}, DpAll K H vs ds → Dp K H v d → DpAll K H (vs ++ [v]) (ds ++ [d])
  | _, _, _, _, .nil, h => .cons h .nil
  | _, _, _, _, .cons a t, h => .cons a (dpAll_snoc t h)
theorem dpAll_append {K : PySem.W.Frag} {H : Hp} : ∀ {vs ws : List V} {ds es : List PyData}, DpAll K H vs ds → DpAll K H ws es → DpAll K H (vs ++ ws) (ds ++ es)
  | _, _, _, _, .nil, h => h
  | _, _, _, _, .cons a t, h => .cons a (dpAll_append t h)
theorem dpAll_len {K : PySem.W.Frag} {H : Hp} : ∀ {vs : List V} {ds : List PyData}, DpAll K H vs ds → vs.length = ds.length
  | _, _, .nil => rfl
  | _, _, .cons _ t => congrArg (· + 1) (dpAll_len t)
theorem dpAll_get {K : PySem.W.Frag} {H : Hp} : ∀ {vs : List V} {ds : List PyData}, DpAll K H vs ds → ∀ {i : Nat} {v : V}, vs[i]? = some v → ∃ d, ds[i]? = some d ∧ Dp K H v d
  | _, _, .nil, i, v, h => by simp at h
  | _, _, .cons a t, 0, v, h => by
    simp only [List.getElem?_cons_zero, Option.some.injEq] at h
    exact ⟨_, rfl, h ▸ a⟩
  | _, _, .cons a t, i + 1, v, h => by
    simp only [List.getElem?_cons_succ] at h ⊢
    exact dpAll_get t h
theorem TpO.same {H H' : Hp} {a : Addr} {xs : List V} (h : TpO H a xs) (e : Same H H') : TpO H' a xs := h.move fun u q => e _ _ q
theorem TpO.sameT {T : Addr} {H H' : Hp} {a : Addr} {xs : List V} (h : TpO H a xs) (e : SameT T H H') (n : a ≠ T) : TpO H' a xs := h.move fun u q => e _ _ n q
/-! ### walks -/
theorem in_it {J : It} {n : Nat} {G : Hp → Prop} {Y : Nat → Hp → V → Hp → Prop} (w : Walk J n G Y) {Qd : Hp → Prop} {R : V → Hp → (Hp → Prop) → Prop} {H0 : Hp} (Pv : Nat → Hp → Prop) (h0 : Pv 0 H0)
    (hG : ∀ i H, i ≤ n → Pv i H → G H) (hs : ∀ i x H H', i < n → Pv i H → Y i H x H' → R x H' (Pv (i + 1))) (hd : ∀ H, Pv n H → Qd H) :
    ∃ W : Nat → Nat → Hp → Prop, (∃ m, W 0 m H0) ∧ ∀ i m H, W i m H → (J.stop i H ∧ Qd H) ∨
      (J.go i H ∧ ∃ Nx : Hp → Prop, (∀ H', Nx H' → ∃ m', m' < m ∧ W (i + 1) m' H') ∧ ∀ x H', J.yld i H x H' → R x H' Nx) := by
  refine ⟨fun i m H => m = n - i ∧ i ≤ n ∧ Pv i H, ⟨n, by simp, Nat.zero_le _, h0⟩, ?_⟩
  rintro i m H ⟨rfl, hi, p⟩
  by_cases hlt : i < n
  · exact .inr ⟨w.goes i H hlt (hG i H hi p), Pv (i + 1), fun H' p' => ⟨n - (i + 1), by omega, rfl, hlt, p'⟩, fun x H' y => hs i x H H' hlt p (w.yields i H x H' hlt (hG i H hi p) y)⟩
  · have e : i = n := by omega
    subst e
    exact .inl ⟨w.stops H (hG i H hi p), hd H p⟩
/-! ### the tape -/
structure Tape (H : Hp) (T S : Addr) (ns : List Int) : Prop where
  at_ : ∃ i c : Int, H T = some (.lst [.ref S, .int i, .int c])
  scr : H S = some (.lst (ns.map V.int))
theorem Tape.ne {H : Hp} {T S : Addr} {ns : List Int} (t : Tape H T S ns) : S ≠ T := by
  obtain ⟨i, c, h⟩ := t.at_
  refine ne_of t.scr h fun z => ?_
  injection z with z
  cases ns with
  | nil => cases z
  | cons a r => cases z
theorem Tape.same {H H' : Hp} {T S : Addr} {ns : List Int} (t : Tape H T S ns) (s : Same H H') : Tape H' T S ns := by
  obtain ⟨i, c, h⟩ := t.at_
  exact ⟨⟨i, c, s _ _ h⟩, s _ _ t.scr⟩
theorem Tape.put {H : Hp} {T S : Addr} {ns : List Int} (t : Tape H T S ns) (i c : Int) : Tape (upd H T (.lst [.ref S, .int i, .int c])) T S ns :=
  ⟨⟨i, c, upd_same⟩, by rw [upd_ne t.ne]; exact t.scr⟩
theorem Tape.taken {H : Hp} {T S : Addr} {ns : List Int} (t : Tape H T S ns) : ∃ o, H T = some o := by
  obtain ⟨i, c, h⟩ := t.at_
  exact ⟨_, h⟩
theorem sameT_put {T : Addr} {H : Hp} (o : HO) : SameT T H (upd H T o) := fun b u n q => by rw [upd_ne n]; exact q
theorem new_ne {H' : Hp} {T p : Addr} {o : HO} (h : H' T = some o) (n : H' p = none) : p ≠ T := fun e => by
  rw [e, h] at n
  cases n
/-! ### texts in order -/
abbrev ltS (a b : Str) : Prop := a.cps.toList < b.cps.toList
theorem str_ext {a b : Str} (h : a.cps.toList = b.cps.toList) : a = b := by
  cases a with
  | mk x =>
    cases b with
    | mk y =>
      have e : x = y := Array.toList_inj.mp h
      rw [e]
theorem ltS_tri {a b : Str} (h1 : ¬ ltS a b) (h2 : ¬ ltS b a) : a = b := by
  apply str_ext
  rw [List.not_lt] at h1 h2
  exact List.le_antisymm h2 h1
theorem ltS_asymm {a b : Str} (h : ltS a b) : ¬ ltS b a := List.lt_asymm h
theorem ltS_irrefl (a : Str) : ¬ ltS a a := List.lt_irrefl _
theorem rising_pw : ∀ (p : Str) (l : List Str), risingS p l = true → (p :: l).Pairwise fun a b => ¬ ltS b a
  | p, [], _ => List.pairwise_singleton _ _
  | p, x :: r, h => by
    have h' : (!ltCps x.cps.toList p.cps.toList && risingS x r) = true := h
    rw [Bool.and_eq_true] at h'
    have ih := rising_pw x r h'.2
    have hx : ¬ ltS x p := by
      have q := h'.1
      rw [ltCps_eq] at q
      simpa using q
    refine List.pairwise_cons.mpr ⟨fun y hy => ?_, ih⟩
    rcases List.mem_cons.mp hy with e | hy
    · rw [e]
      exact hx
    · have q := (List.pairwise_cons.mp ih).1 y hy
      intro z
      by_cases e : ltS p x
      · exact q (List.lt_trans z e)
      · rw [ltS_tri e hx] at z
        exact q z
theorem sorted_pw {l : List Str} (h : sortedS l = true) : l.Pairwise fun a b => ¬ ltS b a := by
  cases l with
  | nil => exact List.Pairwise.nil
  | cons x r => exact rising_pw x r h
theorem sorted_one {l m : List Str} (hl : sortedS l = true) (hm : sortedS m = true) (p : l.Perm m) : l = m :=
  List.Perm.eq_of_pairwise (fun a b _ _ h1 h2 => ltS_tri h2 h1) (sorted_pw hl) (sorted_pw hm) p
/-- both of a pair, the lesser first -/
def asPair (q : Str × Str) : Str × Str := if ltS q.1 q.2 then (q.1, q.2) else (q.2, q.1)
theorem sorted_two {a b : Str} {l : List Str} (p : l.Perm [a, b]) (h : sortedS l = true) : l = [(asPair (a, b)).1, (asPair (a, b)).2] := by
  refine sorted_one h ?_ (p.trans ?_)
  · unfold asPair
    by_cases c : ltS a b
    · rw [if_pos c]
      show (!ltCps b.cps.toList a.cps.toList && true) = true
      rw [ltCps_eq, decide_eq_false (ltS_asymm c)]
      rfl
    · rw [if_neg c]
      show (!ltCps a.cps.toList b.cps.toList && true) = true
      rw [ltCps_eq, decide_eq_false c]
      rfl
  · unfold asPair
    by_cases c : ltS a b
    · rw [if_pos c]
    · rw [if_neg c]
      exact List.Perm.swap b a []
/-- the pairs of a row of texts, by the place of the first -/
def prs (ys : List Str) : Nat → List (Str × Str)
  | 0 => []
  | i + 1 => prs ys i ++ match ys[i]? with
    | some a => (ys.drop (i + 1)).map fun b => (a, b)
    | none => []
theorem prs_succ {ys : List Str} {i : Nat} {a : Str} (h : ys[i]? = some a) : prs ys (i + 1) = prs ys i ++ (ys.drop (i + 1)).map fun b => (a, b) := by
  show prs ys i ++ (match ys[i]? with | some a => (ys.drop (i + 1)).map fun b => (a, b) | none => []) = _
  rw [h]
theorem prs_mem {ys : List Str} {i j : Nat} {a b : Str} (hi : ys[i]? = some a) (hj : ys[j]? = some b) (h : i < j) : ∀ n, i < n → (a, b) ∈ prs ys n
  | 0, z => by omega
  | n + 1, z => by
    by_cases e : i = n
    · subst e
      rw [prs_succ hi]
      refine List.mem_append_right _ (List.mem_map.mpr ⟨b, ?_, rfl⟩)
      have q : (ys.drop (i + 1))[j - (i + 1)]? = some b := by
        rw [List.getElem?_drop, show i + 1 + (j - (i + 1)) = j by omega]
        exact hj
      exact List.mem_of_getElem? q
    · exact List.mem_append_left _ (prs_mem hi hj h n (by omega))
theorem prs_len (ys : List Str) : ∀ n, (prs ys n).length ≤ n * ys.length
  | 0 => by simp [prs]
  | n + 1 => by
    have ih := prs_len ys n
    rw [Nat.succ_mul]
    cases h : ys[n]? with
    | none =>
      have e : prs ys (n + 1) = prs ys n ++ (match ys[n]? with | some a => (ys.drop (n + 1)).map fun b => (a, b) | none => []) := rfl
      rw [e, h, List.append_nil]
      omega
    | some a =>
      rw [prs_succ h, List.length_append, List.length_map, List.length_drop]
      omega
theorem pair_in {ys bs : List Str} {a b : Str} (p : ys.Perm bs) (hs : sortedS ys = true) (ha : a ∈ bs) (hb : b ∈ bs) (ne : a ≠ b) : asPair (a, b) ∈ prs ys ys.length := by
  have key : ∀ {c d : Str}, c ∈ bs → d ∈ bs → ltS c d → (c, d) ∈ prs ys ys.length := fun {c d} hc hd lt => by
    obtain ⟨i, hi⟩ := List.getElem?_of_mem (p.mem_iff.mpr hc)
    obtain ⟨j, hj⟩ := List.getElem?_of_mem (p.mem_iff.mpr hd)
    have li := (List.getElem?_eq_some_iff.mp hi).1
    have lj := (List.getElem?_eq_some_iff.mp hj).1
    refine prs_mem hi hj ?_ _ li
    by_cases h : i < j
    · exact h
    · exfalso
      by_cases e : i = j
      · subst e
        rw [hi] at hj
        cases hj
        exact ltS_irrefl _ lt
      · have pw := List.pairwise_iff_getElem.mp (sorted_pw hs) j i lj li (by omega)
        rw [(List.getElem?_eq_some_iff.mp hi).2, (List.getElem?_eq_some_iff.mp hj).2] at pw
        exact pw lt
  unfold asPair
  by_cases c : ltS a b
  · rw [if_pos c]
    exact key ha hb c
  · rw [if_neg c]
    refine key hb ha ?_
    by_cases d : ltS b a
    · exact d
    · exact absurd (ltS_tri c d) ne
/-! ### what readings do -/
/-- the pile behind one reading -/
def lay (bs : List Str) (b : Str) : List Str := b :: bs.eraseIdx (bs.idxOf b)
/-- the books above -/
def over (bs : List Str) (b : Str) : List Str := bs.take (bs.idxOf b)
def behindM : List Str → List Str → List Str
  | bs, [] => bs
  | bs, b :: r => behindM (lay bs b) r
def liftedM : List Str → List Str → List Nat
  | _, [] => []
  | bs, b :: r => bs.idxOf b :: liftedM (lay bs b) r
def rowsM : List Str → List Str → List (Str × Str)
  | _, [] => []
  | bs, b :: r => (over bs b).map (fun o => (b, o)) ++ rowsM (lay bs b) r
theorem behindM_snoc (bs : List Str) : ∀ (rs : List Str) (b : Str), behindM bs (rs ++ [b]) = lay (behindM bs rs) b := by
  intro rs
  induction rs generalizing bs with
  | nil => intro b; rfl
  | cons x r ih => intro b; exact ih (lay bs x) b
theorem liftedM_snoc (bs : List Str) : ∀ (rs : List Str) (b : Str), liftedM bs (rs ++ [b]) = liftedM bs rs ++ [(behindM bs rs).idxOf b] := by
  intro rs
  induction rs generalizing bs with
  | nil => intro b; rfl
  | cons x r ih =>
    intro b
    show bs.idxOf x :: liftedM (lay bs x) (r ++ [b]) = bs.idxOf x :: (liftedM (lay bs x) r ++ [(behindM (lay bs x) r).idxOf b])
    rw [ih]
theorem rowsM_snoc (bs : List Str) : ∀ (rs : List Str) (b : Str), rowsM bs (rs ++ [b]) = rowsM bs rs ++ (over (behindM bs rs) b).map fun o => (b, o) := by
  intro rs
  induction rs generalizing bs with
  | nil => intro b; exact List.append_nil _
  | cons x r ih =>
    intro b
    show (over bs x).map (fun o => (x, o)) ++ rowsM (lay bs x) (r ++ [b]) = ((over bs x).map (fun o => (x, o)) ++ rowsM (lay bs x) r) ++ (over (behindM (lay bs x) r) b).map fun o => (b, o)
    rw [ih, List.append_assoc]
theorem idx_lt {bs : List Str} {b : Str} (h : b ∈ bs) : bs.idxOf b < bs.length := List.idxOf_lt_length_iff.mpr h
theorem idx_get {bs : List Str} {b : Str} (h : b ∈ bs) : bs[bs.idxOf b]? = some b := by
  rw [List.getElem?_eq_getElem (idx_lt h), List.getElem_idxOf (idx_lt h)]
theorem idx_first {bs : List Str} {b : Str} : ∀ m, m < bs.idxOf b → bs[m]? ≠ some b := by
  induction bs with
  | nil => intro m h; simp at h
  | cons x r ih =>
    intro m h
    rw [List.idxOf_cons] at h
    by_cases e : x == b
    · rw [e] at h
      simp at h
    · have e' : (x == b) = false := by simpa using e
      rw [e'] at h
      simp only [cond_false] at h
      cases m with
      | zero =>
        intro z
        simp only [List.getElem?_cons_zero, Option.some.injEq] at z
        rw [z] at e'
        simp at e'
      | succ m =>
        simp only [List.getElem?_cons_succ]
        exact ih m (by omega)
theorem lay_perm {bs : List Str} {b : Str} (h : b ∈ bs) : (lay bs b).Perm bs := by
  have q := (List.perm_cons_erase h).symm
  rw [List.erase_eq_eraseIdx_of_idxOf rfl] at q
  exact q
theorem behindM_perm : ∀ {bs : List Str} (rs : List Str), (∀ b ∈ rs, b ∈ bs) → (behindM bs rs).Perm bs
  | bs, [], _ => List.Perm.refl _
  | bs, b :: r, h => by
    have hb := h b (List.mem_cons_self ..)
    have p := lay_perm hb
    exact (behindM_perm r fun c hc => p.mem_iff.mpr (h c (List.mem_cons_of_mem _ hc))).trans p
/-- a book above another is another -/
theorem over_ne {bs : List Str} {b o : Str} (h : o ∈ over bs b) : o ≠ b := by
  obtain ⟨m, hm⟩ := List.getElem?_of_mem h
  have l := (List.getElem?_eq_some_iff.mp hm).1
  unfold over at hm l
  rw [List.length_take] at l
  rw [List.getElem?_take_of_lt (by omega)] at hm
  intro e
  subst e
  exact idx_first m (by omega) hm
theorem over_mem {bs : List Str} {b o : Str} (h : o ∈ over bs b) : o ∈ bs := List.mem_of_mem_take h
/-- how often both passed one another -/
def cnt (rows : List (Str × Str)) (q : Str × Str) : Nat := (rows.filter fun r => decide (asPair r = q)).length
theorem cnt_nil (q : Str × Str) : cnt [] q = 0 := rfl
theorem cnt_snoc (rows : List (Str × Str)) (r q : Str × Str) : cnt (rows ++ [r]) q = cnt rows q + if asPair r = q then 1 else 0 := by
  unfold cnt
  rw [List.filter_append, List.length_append]
  by_cases h : asPair r = q
  · rw [if_pos h, List.filter_cons_of_pos (by simpa using h)]
    rfl
  · rw [if_neg h, List.filter_cons_of_neg (by simpa using h)]
    rfl
/-! ### slices -/
theorem cut_to {xs : List V} {j : Nat} (h : j ≤ xs.length) : cutV xs none (some (j : Int)) = xs.take j := by
  unfold cutV
  rw [HT.sIx_none, HT.sIx_nat, Nat.min_eq_left h]
  simp
theorem cut_from {xs : List V} {j : Nat} (h : j ≤ xs.length) : cutV xs (some (j : Int)) none = xs.drop j := by
  unfold cutV
  rw [HT.sIx_none, HT.sIx_nat, Nat.min_eq_left h]
  rw [List.take_of_length_le (by rw [List.length_drop]; omega)]
/-! ### shapes -/
theorem shaped_of {d : PyData} (h1 : d.canLay0 = true) (h2 : d.depth ≤ 64) : SeqAt.shaped d = true := by
  unfold SeqAt.shaped
  rw [h1, decide_eq_true h2]
  rfl
theorem canAll : ∀ ds : List PyData, (∀ d ∈ ds, d.canLay0 = true) → PyData.canLayAll0 ds = true
  | [], _ => by rw [PyData.canLayAll0]
  | d :: r, h => by
    rw [PyData.canLayAll0, h d (List.mem_cons_self ..), canAll r fun x hx => h x (List.mem_cons_of_mem _ hx)]
    rfl
theorem depthAll_le {n : Nat} : ∀ ds : List PyData, (∀ d ∈ ds, d.depth ≤ n) → PyData.depthAll ds ≤ n
  | [], _ => by rw [PyData.depthAll]; exact Nat.zero_le _
  | d :: r, h => by
    rw [PyData.depthAll]
    exact Nat.max_le.mpr ⟨h d (List.mem_cons_self ..), depthAll_le r fun x hx => h x (List.mem_cons_of_mem _ hx)⟩
/-! ### rules within a comprehension: the written part is named -/
section
variable {X : Cx} {K : PySem.W.Frag}
theorem ixL (e : X.K = K) : IxR X (rIxL K) := by
  subst e
  exact ix_list
theorem ixT (e : X.K = K) : IxR X (rIxT K) := by
  subst e
  exact ix_tup
theorem cLen (e : X.K = K) : CallR X (.builtin "len") (Evl.rLenS K) := by
  subst e
  exact call_len_seq
theorem cSortT (e : X.K = K) : CallR X (.builtin "sorted") (rSortedT K) := by
  subst e
  exact cr_sortedT
theorem oEqD (hu : X.A.units + 64 < cLine) (e : X.K = K) : OpR X (compareOp .Eq) (rEqD K) := by
  subst e
  exact op_eqD hu
end
end Lt

set_option Elab.async false
set_option linter.all false
set_option maxRecDepth 100000
set_option maxHeartbeats 4000000
/-! len(set(xs)) of texts, whatever stands in xs more than once. -/
namespace Lt
open PySem PySem.Spec PyProof.Rows L2
/-! ### how many unlike texts -/
def nub (l : List Str) : List Str := l.foldl (fun acc x => if x ∈ acc then acc else acc ++ [x]) []
theorem nub_snoc (l : List Str) (x : Str) : nub (l ++ [x]) = if x ∈ nub l then nub l else nub l ++ [x] := by
  unfold nub
  rw [List.foldl_append]
  rfl
theorem snoc_ind {p : List Str → Prop} (h0 : p []) (h1 : ∀ l x, p l → p (l ++ [x])) : ∀ l, p l := by
  intro l
  have z : ∀ r : List Str, p r.reverse := by
    intro r
    induction r with
    | nil => exact h0
    | cons a r ih =>
      rw [List.reverse_cons]
      exact h1 _ a ih
  have q := z l.reverse
  rwa [List.reverse_reverse] at q
theorem nub_mem (l : List Str) : ∀ z, z ∈ nub l ↔ z ∈ l := by
  refine snoc_ind (p := fun l => ∀ z, z ∈ nub l ↔ z ∈ l) (fun z => Iff.rfl) (fun l x ih z => ?_) l
  rw [nub_snoc]
  by_cases c : x ∈ nub l
  · rw [if_pos c, ih z, List.mem_append, List.mem_singleton]
    exact ⟨.inl, fun h => h.elim id fun e => by rw [e]; exact (ih x).mp c⟩
  · rw [if_neg c, List.mem_append, List.mem_append, ih z]
theorem nub_nodup (l : List Str) : (nub l).Nodup := by
  refine snoc_ind (p := fun l => (nub l).Nodup) List.nodup_nil (fun l x ih => ?_) l
  rw [nub_snoc]
  by_cases c : x ∈ nub l
  · rw [if_pos c]
    exact ih
  · rw [if_neg c]
    exact nd_snoc ih c
def dist (l : List Str) : Nat := (nub l).length
theorem dist_snoc (l : List Str) (x : Str) : dist (l ++ [x]) = if x ∈ l then dist l else dist l + 1 := by
  unfold dist
  rw [nub_snoc]
  by_cases c : x ∈ nub l
  · rw [if_pos c, if_pos ((nub_mem l x).mp c)]
  · rw [if_neg c, if_neg fun z => c ((nub_mem l x).mpr z), List.length_append]
    rfl
theorem dist_le (l : List Str) : dist l ≤ l.length := by
  refine snoc_ind (p := fun l => dist l ≤ l.length) (Nat.le_refl _) (fun l x ih => ?_) l
  rw [dist_snoc, List.length_append, List.length_singleton]
  split <;> omega
/-- unlike texts, the same ones: as many -/
theorem dist_of {l ys : List Str} (nd : ys.Nodup) (mem : ∀ z, z ∈ ys ↔ z ∈ l) : ys.length = dist l := by
  have p : ys.Perm (nub l) := by
    rw [List.perm_ext_iff_of_nodup nd (nub_nodup l)]
    exact fun z => (mem z).trans (nub_mem l z).symm
  exact p.length_eq
/-! ### the set -/
section
variable {prog : Program} {w : World} {A : Around} {R : Result → Shared → Prop} {I : Addr} {fp wr : List Addr} {G : Array GenState → Array GenState → Prop} {n : Nat} {P : Nat → Value → Prop} {St : Nat → Shared → Prop}
theorem txt_loop (W : WalksS prog w A.in1 I fp wr G n P St) (S : Addr) (off : S ∉ fp) (ss : List Str) (len : n = ss.length) (room : n + 1 < scanBound) (val : ∀ i v, P i v → ∃ z t, ss[i]? = some z ∧ v = .str z t) :
    ∀ (m i : Nat) (s : Shared), i + m = n → St i s → s.heap.SetOf (PySem.strKind prog w) S (fun z => decide (z ∈ ss.take i)) (dist (ss.take i)) →
      (∀ s', Moved (S :: wr) G s s' → s'.heap.SetOf (PySem.strKind prog w) S (fun z => decide (z ∈ ss)) (dist ss) → R (.ok (.ret .none)) s') →
      codeAny (model prog w) A (.builtin "set.update.loop" ⟨[.ref S, .ref I], []⟩) R s := by
  have offW : S ∉ wr := fun h => off (W.sub _ h)
  have more : ∀ b ∈ wr, b ∈ S :: wr := fun b hb => .tail _ hb
  have carry : ∀ {s1 s2 : Shared} {M : Str → Bool} {c : Nat}, Moved wr G s1 s2 → s1.heap.SetOf (PySem.strKind prog w) S M c → s2.heap.SetOf (PySem.strKind prog w) S M c := fun mv st => by
    obtain ⟨o, es, ep, tb, ho, rest⟩ := st
    exact ⟨o, es, ep, tb, mv.heap S _ offW ho, rest⟩
  intro m
  induction m with
  | zero =>
    intro i s him st set done
    have hin : i = n := by omega
    subst hin
    refine codeAny_builtin F.entry_set_update_loop ?_
    rw [Around.under_plainId F.plain_set_update_loop _]
    show wpAny _ A.in1 (pyNext (.ref I) >>= _) _ _ s
    refine wpAny_bind (W.done s _ _ st fun s2 mv => ?_)
    rw [List.take_of_length_le (Nat.le_of_eq len.symm)] at set
    exact wpAny_pure (done s2 (mv.mono more) (carry mv set))
  | succ m ih =>
    intro i s him st set done
    refine codeAny_builtin F.entry_set_update_loop ?_
    rw [Around.under_plainId F.plain_set_update_loop _]
    show wpAny _ A.in1 (pyNext (.ref I) >>= _) _ _ s
    refine wpAny_bind (W.item i s _ _ (by omega) st fun v s2 pv st2 mv => ?_)
    obtain ⟨z, t, hz, rfl⟩ := val i v pv
    have isz : (PySem.strKind prog w).is z (.str z t) = true := strKind_is _ _ _ _
    have few : dist (ss.take i) ≤ i := Nat.le_trans (dist_le _) (by rw [List.length_take]; omega)
    have set2 := carry mv set
    show wpAny _ A.in1 (holding [Value.str z t] (setAdd S (.str z t)) >>= _) _ _ s2
    refine wpAny_bind (wpAny_holding ?_)
    unfold setAdd
    refine wpAny_holding (wpAny_bind ((PySem.strKind prog w).pyHash (k := z) isz (wpAny_setAddHashed_of (knd := PySem.strKind prog w) (s := { s2 with toks := s2.toks + 1 }) isz rfl set2 (by omega) fun h3 same set3 => ?_)))
    have set4 : h3.SetOf (PySem.strKind prog w) S (fun y => decide (y ∈ ss.take (i + 1))) (dist (ss.take (i + 1))) := by
      have e1 : ss.take (i + 1) = ss.take i ++ [z] := by
        rw [List.take_add_one, hz]
        rfl
      refine SetOf_congr set3 (fun y => ?_) ?_
      · rw [e1]
        simp [List.mem_append]
      · rw [e1, dist_snoc]
        simp
    have keep : ∀ b o, b ≠ S → s2.heap.get? b = some o → h3.get? b = some o := fun b o hb e => (same.2 b hb).trans e
    refine wpAny_pure ⟨plainId_quiet F.plain_set_update_loop _, ih (i + 1) _ (by omega) (W.frame _ s2 _ _ st2 (Nat.le_succ _) fun b hb o e => keep b o (fun h => off (h ▸ hb)) e) set4 fun s5 mv5 set5 => ?_⟩
    exact done s5 (Moved.trans W.gtrans ((mv.mono more).then_heap (Nat.le_succ _) fun b o hb e => keep b o (fun h => hb (h ▸ List.mem_cons_self)) e) mv5) set5
end
section
variable {prog : Program} {w : World} {A : Around} {E : Value → Shared → Prop} {s : Shared}
/-- set(v): what is left is to fill the new set -/
theorem set_call {v : Value} {Q : Value → Shared → Prop} (fill : ∀ led : Bool, wpAny (model prog w) A.in1.in1 (Builtin.«set.__init__» ⟨[.ref s.heap.objs.size, v], []⟩)
      (fun fin s' => match fin with
        | .done f => wants (fun r s2 => r = .none ∧ Q (.ref s.heap.objs.size) s2) E (.ok f) s'
        | .again c => c.quiet = true ∧ codeAny (model prog w) A.in1 c (wants (fun r s2 => r = .none ∧ Q (.ref s.heap.objs.size) s2) E) s')
      (fun e s' => wants (fun r s2 => r = .none ∧ Q (.ref s.heap.objs.size) s2) E (.error e) s')
      { s with heap := s.heap.push { cls := .type "set", dict := none, data := .set #[] 0 (.fresh 0 0 led) } }) : wpAny (model prog w) A (call (.type "set") [v]) Q E s := by
  have ft := PySem.F.called_set
  obtain ⟨c, tl, mro⟩ := ft.mro
  have made := ft.made
  have sub := ft.sub
  have notT := ft.notType
  have can := ft.canCreate
  have okT := PySem.F.typeCall_set_1 v
  refine wpAny_call (codeAny_of_tree (show wpAny _ _ (callAny (.type "set") _) _ _ _ from wpAny_pure ⟨Code.quiet_builtin _ (by decide +kernel), codeAny_builtin PySem.F.entry_type_call ?_⟩))
  rw [Around.under_plain (weight_type_call_type "set" [v] []) rfl]
  repeat (any_goals (first | assumption | wp_step))
  refine codeAny_mono (code_set_new_1 v (E := E) (Q₁ := fun obj s1 => ∃ led : Bool, obj = .ref s.heap.objs.size ∧ s1 = { s with heap := s.heap.push { cls := .type "set", dict := none, data := .set #[] 0 (.fresh 0 0 led) } }) fun led => ⟨led, rfl, rfl⟩) fun r s1 got => ?_
  cases r with
  | error e => exact got
  | ok fl =>
    cases fl with
    | ret obj =>
      obtain ⟨led, rfl, rfl⟩ := got
      have isSet : Shared.TypeIs { s with heap := s.heap.push { cls := .type "set", dict := none, data := .set #[] 0 (.fresh 0 0 led) } } (.ref s.heap.objs.size) "set" := ⟨_, Heap.get?_push_size _ rfl, rfl⟩
      have look := ft.init.lookup
      have bound := ft.init.bind (.ref s.heap.objs.size)
      repeat (any_goals (first | assumption | wp_step))
      refine codeAny_mono (codeAny_call_builtin ft.init.plain PySem.F.entry_set_init (check_set_init_1 isSet (fill led))) fun r2 s2 got2 => ?_
      cases r2 with
      | error e => exact got2
      | ok fl2 =>
        cases fl2 with
        | ret r =>
          obtain ⟨rfl, q⟩ := got2
          repeat (any_goals (first | assumption | wp_step))
        | _ => exact got2.elim
    | _ => exact got.elim
theorem set_txts {l : Addr} {items : Array Value} {ss : List Str} {Q : Value → Shared → Prop} (calm : A.handled = none) (hl : s.heap.IsList l items) (val : ∀ (i : Nat) (v : Value), items[i]? = some v → ∃ z t, ss[i]? = some z ∧ v = .str z t)
    (len : items.size = ss.length) (room : items.size + 1 < scanBound)
    (h : ∀ (h' : Heap) (tk : Nat), h'.SetOf (PySem.strKind prog w) s.heap.objs.size (fun z => decide (z ∈ ss)) (dist ss) → (∀ b o, s.heap.get? b = some o → h'.get? b = some o) → Q (.ref s.heap.objs.size) { s with heap := h', toks := tk }) :
    wpAny (model prog w) A (call (.type "set") [.ref l]) Q E s := by
  refine set_call fun led => ?_
  have below : (l : Nat) < s.heap.objs.size := by
    obtain ⟨o, ho, _⟩ := hl
    exact Heap.lt_size ho
  have atS : (s.heap.push { cls := .type "set", dict := none, data := .set #[] 0 (.fresh 0 0 led) }).get? s.heap.objs.size = some { cls := .type "set", dict := none, data := .set #[] 0 (.fresh 0 0 led) } := Heap.get?_push_size _ rfl
  have hl1 : (s.heap.push { cls := .type "set", dict := none, data := .set #[] 0 (.fresh 0 0 led) }).IsList l items := hl.push _
  obtain ⟨⟨oc, od, odt, osl⟩, ho1, hc1, n1, hd1⟩ := id hl1
  simp only at hc1 hd1
  subst hc1 hd1
  have no1 := PySem.F.sub_list_set
  have no2 := PySem.F.sub_list_frozenset
  have no3 : (Value.type "list" == Value.type "dict") = false := by decide
  unfold Builtin.«set.__init__» noKeywords Builtin.Frozenset.updateFrom
  generalize hPI : pyIter = PI
  wp_walk
  subst hPI
  refine wpAny_pyIter_list hl1 (wpAny_bind (wpAny_runValue ?_))
  have top1 : (s.heap.push { cls := .type "set", dict := none, data := .set #[] 0 (.fresh 0 0 led) }).objs.size = s.heap.objs.size + 1 := Heap.size_push _ _
  have calm3 : A.in1.in1.in1.handled = none := by simp [calm]
  have neI : l ≠ (s.heap.push { cls := .type "set", dict := none, data := .set #[] 0 (.fresh 0 0 led) }).objs.size := by
    rw [top1]
    exact Nat.ne_of_lt (Nat.lt_succ_of_lt below)
  have offS : s.heap.objs.size ∉ [(s.heap.push { cls := .type "set", dict := none, data := .set #[] 0 (.fresh 0 0 led) }).objs.size, l] := by
    rw [top1]
    intro z
    rcases List.mem_cons.mp z with e | e
    · exact Nat.succ_ne_self _ e.symm
    · exact absurd (List.mem_singleton.mp e) (Nat.ne_of_gt below)
  refine txt_loop ((Walks.list calm3 _ l neI items).toS) s.heap.objs.size offS ss len room val items.size 0 _ (Nat.zero_add _) ⟨⟨_, Heap.get?_push_size _ rfl, rfl, rfl⟩, hl1.push _⟩ ?empty ?filled
  case empty =>
    refine SetOf_congr ((setObjOf_fresh (knd := PySem.strKind prog w) led).setOf (Heap.get?_push_of_some _ atS) (by unfold scanBound; omega)) (fun z => ?_) rfl
    simp
  case filled =>
    intro s5 mv set5
    obtain ⟨h5, g5, d5, tk5, os5⟩ := s5
    obtain rfl : g5 = s.gens := mv.gens
    obtain rfl : d5 = s.drawn := mv.drawn
    obtain rfl : os5 = s.os := mv.os
    show wpAny _ _ _ _ _ _
    refine wpAny_pure (show wpAny _ _ (ret Value.none) _ _ _ from wpAny_pure ⟨rfl, h h5 tk5 set5 fun b o e => ?_⟩)
    have lt : b < s.heap.objs.size := Heap.lt_size e
    refine mv.heap b o (fun z => ?_) (Heap.get?_push_of_some _ (Heap.get?_push_of_some _ e))
    rcases List.mem_cons.mp z with e2 | e2
    · exact absurd e2 (Nat.ne_of_lt lt)
    · rw [List.mem_singleton.mp e2, top1] at lt
      exact absurd lt (Nat.not_lt.mpr (Nat.le_succ _))
end
section
variable {X : Cx}
def tLenSetS (K : PySem.W.Frag) (ta : TE) : TE := fun σ H Q => ta σ H fun x H1 => ∃ (l : Addr) (ss : List Str), x = .ref l ∧ SqL K H1 l (ss.map V.str) ∧ ss.length ≤ 1000 ∧ Q (.int (dist ss : Nat)) H1
theorem pe_lenSetS {a : Expr} {ta : TE} {p p2 q pos : Pos} (hcalm : X.calm = true) (g1 : Gl X "len") (m1 : X.mg "len" = none) (g2 : Gl X "set") (m2 : X.mg "set" = none) (ha : PE X a ta)
    (one : starEach [a] X.env = (false, eval a X.env) :: starEach [] X.env := by rfl) : PE X (.Call (.Name "len" p) [.Call (.Name "set" p2) [a] [] q] [] pos) (tLenSetS X.K ta) := by
  refine ⟨fun pins s σ H Q inv h => Call_ (ld_blt inv g1 m1 boot_len (callWith_builtin1 (args_cons ?_ rfl) rfl rfl))⟩
  refine Call_ (ld_blt inv g2 m2 boot_set (callWith_type1 (args_cons (thn (ha.run pins s σ H _ inv h) fun v s1 ⟨x, H1, inv1, rel, l, ss, ev, sq, few, q1⟩ => args_nil ?_) one) one rfl))
  subst ev
  cases rel
  obtain ⟨its, vals, pl, _⟩ := inv1.list sq
  have len : its.toArray.size = ss.length := by rw [List.size_toArray, ← vals.length, List.length_map]
  refine set_txts (ss := ss) (inv1.ok.hd hcalm) pl.isList (fun i v e => ?_) len (by rw [len]; unfold scanBound; omega) fun h' tk set kept => args_nil ?_
  · have e' : its[i]? = some v := by simpa using e
    have hi : i < ss.length := by
      have z := (List.getElem?_eq_some_iff.mp e').1
      rw [← len, List.size_toArray]
      exact z
    obtain ⟨u, g3, t, g4⟩ := vals.get (i := i) (x := .str ss[i]) (by simp [hi])
    rw [e'] at g3
    cases g3
    exact ⟨ss[i], t, List.getElem?_eq_getElem hi, g4⟩
  · obtain ⟨o, es, ep, tb, ho, ex, hd, _, _, _, fits, num⟩ := set
    have small : dist ss ≤ 1000 := Nat.le_trans (dist_le ss) few
    have inv2 : Inv X pins σ H1 { s1 with heap := h', toks := tk } := inv1.kept kept
    exact call_len_set ho ex hd fits (by rw [num]; omega) ⟨.int (dist ss : Nat), H1, inv2.tok _, ⟨_, by rw [num]⟩, q1⟩
end
end Lt

set_option Elab.async false
set_option linter.all false
set_option maxRecDepth 100000
set_option maxHeartbeats 4000000
namespace Lt
open PySem PySem.Spec PyProof.Rows L2
/-! ### who lies above was wanted since -/
theorem nub_cons (b : Str) (l : List Str) : nub (b :: l) = b :: (nub l).filter (fun z => decide (z ≠ b)) := by
  refine snoc_ind (p := fun l => nub (b :: l) = b :: (nub l).filter fun z => decide (z ≠ b)) rfl (fun l x ih => ?_) l
  have e : b :: (l ++ [x]) = (b :: l) ++ [x] := rfl
  have m1 : x ∈ nub (b :: l) ↔ x = b ∨ x ∈ nub l := by rw [nub_mem, nub_mem, List.mem_cons]
  rw [e, nub_snoc, nub_snoc]
  by_cases c : x ∈ nub l
  · rw [if_pos c, if_pos (m1.mpr (.inr c)), ih]
  · rw [if_neg c, List.filter_append]
    by_cases d : x = b
    · rw [if_pos (m1.mpr (.inl d)), ih, List.filter_cons_of_neg (by simpa using d), List.filter_nil, List.append_nil]
    · rw [if_neg fun z => (m1.mp z).elim d c, ih, List.filter_cons_of_pos (by simpa using d), List.filter_nil]
      rfl
theorem lay_filter {cur : List Str} {b : Str} (nd : cur.Nodup) : lay cur b = b :: cur.filter (fun z => decide (z ≠ b)) := by
  unfold lay
  rw [← List.erase_eq_eraseIdx_of_idxOf rfl, nd.erase_eq_filter]
  congr 1
  apply List.filter_congr
  intro z _
  by_cases e : z = b
  · subst e
    simp
  · have z1 : (z != b) = true := by simpa using e
    rw [z1]
    simp [e]
theorem behind_is {bs : List Str} (nd : bs.Nodup) : ∀ rs : List Str, (∀ b ∈ rs, b ∈ bs) → behindM bs rs = nub rs.reverse ++ bs.filter fun z => decide (z ∉ rs) := by
  refine snoc_ind (p := fun rs => (∀ b ∈ rs, b ∈ bs) → behindM bs rs = nub rs.reverse ++ bs.filter fun z => decide (z ∉ rs)) (fun _ => ?_) (fun rs b ih h => ?_)
  · show bs = [] ++ bs.filter fun z => decide (z ∉ ([] : List Str))
    rw [List.nil_append, List.filter_eq_self.mpr fun z _ => by simp]
  · have h1 : ∀ c ∈ rs, c ∈ bs := fun c hc => h c (List.mem_append_left _ hc)
    have nd2 : (behindM bs rs).Nodup := (behindM_perm rs h1).nodup_iff.mpr nd
    rw [behindM_snoc, lay_filter nd2, ih h1, List.filter_append, List.reverse_append, List.reverse_singleton]
    show b :: _ = nub (b :: rs.reverse) ++ _
    rw [nub_cons, List.filter_filter]
    show b :: _ = b :: ((nub rs.reverse).filter (fun z => decide (z ≠ b)) ++ bs.filter fun z => decide (z ∉ rs ++ [b]))
    congr 2
    apply List.filter_congr
    intro z _
    by_cases c1 : z ∈ rs
    · simp [c1]
    · by_cases c2 : z = b
      · simp [c2]
      · simp [c1, c2]
theorem nub_prefix (l : List Str) : ∀ r : List Str, ∃ t, nub (l ++ r) = nub l ++ t := by
  refine snoc_ind (p := fun r => ∃ t, nub (l ++ r) = nub l ++ t) ⟨[], by rw [List.append_nil, List.append_nil]⟩ (fun r x ih => ?_)
  obtain ⟨t, e⟩ := ih
  rw [← List.append_assoc, nub_snoc, e]
  by_cases c : x ∈ nub l ++ t
  · rw [if_pos c]
    exact ⟨t, rfl⟩
  · rw [if_neg c]
    exact ⟨t ++ [x], by rw [List.append_assoc]⟩
theorem idx_mid {l r : List Str} {b : Str} (h : b ∉ l) : (l ++ b :: r).idxOf b = l.length := by
  rw [List.idxOf_append, if_neg h, List.idxOf_cons_self, Nat.zero_add]
theorem nub_idx {l r : List Str} {b : Str} (h : b ∉ l) : (nub (l ++ b :: r)).idxOf b = (nub l).length := by
  obtain ⟨t, e⟩ := nub_prefix (l ++ [b]) r
  rw [List.append_assoc] at e
  have e2 : l ++ ([b] ++ r) = l ++ b :: r := rfl
  have nb : b ∉ nub l := fun z => h ((nub_mem l b).mp z)
  rw [e2, nub_snoc, if_neg nb, List.append_assoc] at e
  rw [e]
  exact idx_mid nb
theorem split_at {l : List Str} {b : Str} (h : b ∈ l) : l = l.take (l.idxOf b) ++ b :: l.drop (l.idxOf b + 1) ∧ b ∉ l.take (l.idxOf b) := by
  refine ⟨?_, fun z => over_ne (bs := l) (b := b) (o := b) z rfl⟩
  have i := idx_lt h
  have e := List.take_append_drop (l.idxOf b) l
  rw [List.drop_eq_getElem_cons i, List.getElem_idxOf i] at e
  exact e.symm
theorem lifted_seen {bs a : List Str} {b : Str} (nd : bs.Nodup) (ha : ∀ c ∈ a, c ∈ bs) (hb : b ∈ a) : (behindM bs a).idxOf b = dist (a.drop (a.length - a.reverse.idxOf b)) := by
  have hr : b ∈ a.reverse := List.mem_reverse.mpr hb
  obtain ⟨e, no⟩ := split_at hr
  have hn : b ∈ nub a.reverse := (nub_mem _ b).mpr hr
  rw [behind_is nd a ha, List.idxOf_append, if_pos hn]
  have k := nub_idx (l := a.reverse.take (a.reverse.idxOf b)) (r := a.reverse.drop (a.reverse.idxOf b + 1)) no
  rw [← e] at k
  rw [k]
  refine dist_of (nub_nodup _) fun z => ?_
  rw [nub_mem, List.take_reverse, List.mem_reverse]
theorem lifted_new {bs a : List Str} {b : Str} (nd : bs.Nodup) (ha : ∀ c ∈ a, c ∈ bs) (hbs : b ∈ bs) (hb : b ∉ a) : (behindM bs a).idxOf b = dist (a ++ over bs b) := by
  have hr : b ∉ nub a.reverse := fun z => hb (List.mem_reverse.mp ((nub_mem _ b).mp z))
  obtain ⟨e, no⟩ := split_at hbs
  have ef : (bs.filter fun z => decide (z ∉ a)).idxOf b = ((over bs b).filter fun z => decide (z ∉ a)).length := by
    have e2 : bs.filter (fun z => decide (z ∉ a)) = ((over bs b).filter fun z => decide (z ∉ a)) ++ b :: (bs.drop (bs.idxOf b + 1)).filter fun z => decide (z ∉ a) := by
      conv =>
        lhs
        rw [e]
      rw [List.filter_append, List.filter_cons_of_pos (by simpa using hb)]
      rfl
    rw [e2]
    exact idx_mid fun z => no ((List.mem_filter.mp z).1)
  rw [behind_is nd a ha, List.idxOf_append, if_neg hr, ef, Nat.add_comm, ← List.length_append]
  refine dist_of ?_ fun z => ?_
  · rw [List.nodup_append]
    refine ⟨nub_nodup _, (nd.sublist (List.take_sublist _ _)).filter _, fun x hx y hy xy => ?_⟩
    subst xy
    have z1 := List.mem_reverse.mp ((nub_mem _ _).mp hx)
    have z2 := (List.mem_filter.mp hy).2
    simp [z1] at z2
  · rw [List.mem_append, List.mem_append, nub_mem, List.mem_reverse, List.mem_filter]
    by_cases c : z ∈ a
    · simp [c]
    · simp [c]
theorem behindM_append (bs : List Str) : ∀ one two : List Str, behindM bs (one ++ two) = behindM (behindM bs one) two := by
  intro one
  induction one generalizing bs with
  | nil => intro two; rfl
  | cons x r ih => intro two; exact ih (lay bs x) two
theorem liftedM_append (bs : List Str) : ∀ one two : List Str, liftedM bs (one ++ two) = liftedM bs one ++ liftedM (behindM bs one) two := by
  intro one
  induction one generalizing bs with
  | nil => intro two; rfl
  | cons x r ih =>
    intro two
    show bs.idxOf x :: liftedM (lay bs x) (r ++ two) = bs.idxOf x :: (liftedM (lay bs x) r ++ liftedM (behindM (lay bs x) r) two)
    rw [ih]
theorem liftedM_get (bs : List Str) : ∀ (rs : List Str) (i : Nat) (b : Str), rs[i]? = some b → (liftedM bs rs)[i]? = some ((behindM bs (rs.take i)).idxOf b) := by
  intro rs
  induction rs generalizing bs with
  | nil => intro i b h; simp at h
  | cons x r ih =>
    intro i b h
    cases i with
    | zero =>
      simp only [List.getElem?_cons_zero, Option.some.injEq] at h
      subst h
      rfl
    | succ i =>
      simp only [List.getElem?_cons_succ] at h
      exact ih (lay bs x) i b h
/-! ### all that were lifted are all passings -/
theorem rows_count : ∀ {bs : List Str} (rs : List Str), (∀ b ∈ rs, b ∈ bs) → (rowsM bs rs).length = (liftedM bs rs).sum
  | bs, [], _ => rfl
  | bs, b :: r, h => by
    have hb := h b (List.mem_cons_self ..)
    have p := lay_perm hb
    have ih := rows_count (bs := lay bs b) r fun c hc => p.mem_iff.mpr (h c (List.mem_cons_of_mem _ hc))
    show ((over bs b).map (fun o => (b, o)) ++ rowsM (lay bs b) r).length = (bs.idxOf b :: liftedM (lay bs b) r).sum
    have i := idx_lt hb
    rw [List.length_append, List.length_map, ih, List.sum_cons]
    unfold over
    rw [List.length_take, Nat.min_eq_left (Nat.le_of_lt i)]
theorem sum_one {ps : List (Str × Str)} {q : Str × Str} (nd : ps.Nodup) (h : q ∈ ps) : (ps.map fun z => if q = z then 1 else 0).sum = 1 := by
  induction ps with
  | nil => cases h
  | cons a r ih =>
    rw [List.map_cons, List.sum_cons]
    obtain ⟨n1, n2⟩ := List.nodup_cons.mp nd
    by_cases e : q = a
    · subst e
      have z : (r.map fun z => if q = z then 1 else 0).sum = 0 := by
        have all : ∀ z ∈ r, q ≠ z := fun z hz e => n1 (e ▸ hz)
        clear ih h nd n1 n2
        induction r with
        | nil => rfl
        | cons c r ih2 =>
          rw [List.map_cons, List.sum_cons, if_neg (all c (List.mem_cons_self ..)), ih2 fun z hz => all z (List.mem_cons_of_mem _ hz)]
      rw [if_pos rfl, z]
    · rw [if_neg e, Nat.zero_add]
      exact ih n2 ((List.mem_cons.mp h).resolve_left e)
theorem cnt_sum {ps : List (Str × Str)} (nd : ps.Nodup) : ∀ rows : List (Str × Str), (∀ r ∈ rows, asPair r ∈ ps) → (ps.map fun q => cnt rows q).sum = rows.length := by
  intro rows
  have key : ∀ l : List (Str × Str), (∀ r ∈ l.reverse, asPair r ∈ ps) → (ps.map fun q => cnt l.reverse q).sum = l.length := by
    intro l
    induction l with
    | nil =>
      intro _
      have z : ∀ ps : List (Str × Str), (ps.map fun q => cnt [] q).sum = 0 := by
        intro ps
        induction ps with
        | nil => rfl
        | cons a r ih => rw [List.map_cons, List.sum_cons, cnt_nil, ih]
      exact z ps
    | cons r l ih =>
      intro h
      rw [List.reverse_cons] at h ⊢
      have hr := h r (by simp)
      have e : (ps.map fun q => cnt (l.reverse ++ [r]) q) = ps.map fun q => cnt l.reverse q + if asPair r = q then 1 else 0 := by
        apply List.map_congr_left
        intro q _
        exact cnt_snoc _ _ _
      have add : ∀ (ps : List (Str × Str)) (f g : Str × Str → Nat), (ps.map fun q => f q + g q).sum = (ps.map f).sum + (ps.map g).sum := by
        intro ps f g
        induction ps with
        | nil => rfl
        | cons a r ih =>
          rw [List.map_cons, List.sum_cons, List.map_cons, List.sum_cons, List.map_cons, List.sum_cons, ih]
          omega
      rw [e, add, ih fun z hz => h z (List.mem_append_left _ hz), sum_one nd hr, List.length_cons]
  intro h
  have z := key rows.reverse (by rw [List.reverse_reverse]; exact h)
  rw [List.reverse_reverse, List.length_reverse] at z
  exact z
theorem prs_fst {ys : List Str} : ∀ {n : Nat} {q : Str × Str}, q ∈ prs ys n → ∃ k, k < n ∧ ys[k]? = some q.1
  | 0, q, h => by cases h
  | n + 1, q, h => by
    cases e : ys[n]? with
    | none =>
      have e2 : prs ys (n + 1) = prs ys n ++ (match ys[n]? with | some a => (ys.drop (n + 1)).map fun b => (a, b) | none => []) := rfl
      rw [e2, e, List.append_nil] at h
      obtain ⟨k, h1, h2⟩ := prs_fst h
      exact ⟨k, by omega, h2⟩
    | some a =>
      rw [prs_succ e] at h
      rcases List.mem_append.mp h with h | h
      · obtain ⟨k, h1, h2⟩ := prs_fst h
        exact ⟨k, by omega, h2⟩
      · obtain ⟨b, hb, rfl⟩ := List.mem_map.mp h
        exact ⟨n, by omega, e⟩
theorem prs_nodup {ys : List Str} (nd : ys.Nodup) : ∀ n, (prs ys n).Nodup
  | 0 => List.nodup_nil
  | n + 1 => by
    cases e : ys[n]? with
    | none =>
      have e2 : prs ys (n + 1) = prs ys n ++ (match ys[n]? with | some a => (ys.drop (n + 1)).map fun b => (a, b) | none => []) := rfl
      rw [e2, e, List.append_nil]
      exact prs_nodup nd n
    | some a =>
      rw [prs_succ e, List.nodup_append]
      refine ⟨prs_nodup nd n, ?_, fun x hx y hy xy => ?_⟩
      · have nd2 : (ys.drop (n + 1)).Nodup := nd.sublist (List.drop_sublist _ _)
        exact List.Pairwise.map _ (fun x y ne z => ne (Prod.mk.inj z).2) nd2
      · subst xy
        obtain ⟨k, h1, h2⟩ := prs_fst hx
        obtain ⟨b, hb, rfl⟩ := List.mem_map.mp hy
        have z := nd_ix nd h2 e
        omega
end Lt

set_option Elab.async false
set_option linter.all false
set_option maxRecDepth 100000
set_option maxHeartbeats 4000000
namespace Lt
open PySem PySem.Spec PyProof.Rows L2
section
variable {P : Program} {w : World} {K : PySem.W.Frag} {mg : Str → Option Value} {base : Heap} {X : Cx}
theorem log_of {m : Int} (h0 : 0 < m) (h1 : m ≤ 1000000000000000000) : m.natAbs.log2 < 9000 := by
  have z : m.natAbs.log2 < 60 := (Nat.log2_lt (by omega)).mpr (Nat.lt_of_le_of_lt (show m.natAbs ≤ 1000000000000000000 by omega) (by decide))
  omega
theorem upd_self {H : Hp} {a : Addr} {o : HO} (h : H a = some o) : upd H a o = H := by
  funext b
  unfold upd
  by_cases e : b = a
  · rw [if_pos e, e, h]
  · rw [if_neg e]
def spDraw : Sp := fun vs H Q _ => ∃ (T S : Addr) (ns : List Int) (m : Int), vs = [.ref T, .int m] ∧ Tape H T S ns ∧ 0 < m ∧ m ≤ 1000000000000000000 ∧
  ∀ r i c : Int, 0 ≤ r → r < m → Q (.int r) (upd H T (.lst [.ref S, .int i, .int c]))
def Has (P : Program) (w : World) (K : PySem.W.Frag) (mg : Str → Option Value) (base : Heap) (k : Nat) (x : Str) (ps : List Str) (sp : Sp) : Prop :=
  ∃ (f : Addr) (fd : FuncData), FnOk P w K mg base CX0 k f fd ps sp ∧ mg x = some (.ref f) ∧ PySem.W.keepIn K (.ref f) = true ∧ Binds K fd ps []
theorem pe_go {k j : Nat} {x : Str} {ps : List Str} {sp : Sp} {e : Expr} {es : List Expr} {p pos : Pos} {t : TA} (c : Has X.prog X.w X.K X.mg X.base k x ps sp) (hr : Room j X.A) (hk : k ≤ j) (hg : Gl X x) (h : PA X (e :: es) t)
    (h1 : (x == ("__debug__" : Str)) = false := by decide) (h2 : starEach (e :: es) X.env = (false, eval e X.env) :: starEach es X.env := by rfl)
    (h3 : (backTo pos (starEach es X.env)).any (·.1) = false := by rfl) : PE X (.Call (.Name x p) (e :: es) [] pos) (tCall sp [] E0 t) := by
  obtain ⟨f, fd, F, m, kp, b⟩ := c
  exact pe_call F (hr.mono hk) hg m kp b .nil pass0 h h1 h2 h3
theorem pe_go0 {k j : Nat} {x : Str} {ps : List Str} {sp : Sp} {p pos : Pos} (c : Has X.prog X.w X.K X.mg X.base k x ps sp) (hr : Room j X.A) (hk : k ≤ j) (hg : Gl X x)
    (h1 : (x == ("__debug__" : Str)) = false := by decide) : PE X (.Call (.Name x p) [] [] pos) (tCall sp [] E0 tNil) := by
  obtain ⟨f, fd, F, m, kp, b⟩ := c
  exact pe_call0 F (hr.mono hk) hg m kp b .nil pass0 h1
structure Bi (mg : Str → Option Value) : Prop where
  len : mg "len" = none
  range : mg "range" = none
  tuple : mg "tuple" = none
  list : mg "list" = none
  sorted : mg "sorted" = none
  enumerate : mg "enumerate" = none
  isinstance : mg "isinstance" = none
  bool : mg "bool" = none
  set : mg "set" = none
  sum : mg "sum" = none
  min : mg "min" = none
  max : mg "max" = none
  dict : mg "dict" = none
  reversed : mg "reversed" = none
  all : mg "all" = none
  any : mg "any" = none
  int : mg "int" = none
  str : mg "str" = none
  zip : mg "zip" = none
def books : List Str := ["atlas", "bible", "comics", "diary", "essays", "fables", "guide"]
theorem books_nd : books.Nodup := by decide +kernel
theorem books_ok : ∀ b ∈ books, PyData.strOk b = true := by decide +kernel
structure IsPile (bs : List Str) : Prop where
  nd : bs.Nodup
  pos : 0 < bs.length
  most : bs.length ≤ 7
  ok : ∀ b ∈ bs, b ∈ books
abbrev natV (k : Nat) : V := .int (k : Int)
def spOrder : Sp := fun vs H Q _ => ∃ (T S : Addr) (ns : List Int) (n : Nat), vs = [.ref T, .int n] ∧ Tape H T S ns ∧ n ≤ 1000 ∧
  ∀ (p : Addr) (H' : Hp) (qs : List Nat), SameT T H H' → Tape H' T S ns → H p = none → H' p = some (.tup (qs.map natV)) → qs.Perm (List.range n) → Q (.ref p) H'
def spBooks : Sp := fun vs H Q _ => vs = [] ∧ ∀ p, H p = none → Q (.ref p) (upd H p (.lst (books.map V.str)))
def pick (bs : List Str) (qs : List Nat) : List Str := qs.map fun k => (bs[k]?).getD Str.empty
theorem pick_range (bs : List Str) : pick bs (List.range bs.length) = bs := by
  apply List.ext_getElem?
  intro i
  unfold pick
  rw [List.getElem?_map]
  by_cases h : i < bs.length
  · rw [List.getElem?_range h, List.getElem?_eq_getElem h]
    show some ((bs[i]?).getD Str.empty) = some bs[i]
    rw [List.getElem?_eq_getElem h]
    rfl
  · rw [List.getElem?_eq_none (by rw [List.length_range]; omega), List.getElem?_eq_none (by omega)]
    rfl
theorem pick_perm {bs : List Str} {qs : List Nat} (h : qs.Perm (List.range bs.length)) : (pick bs qs).Perm bs := by
  have q := h.map fun k => (bs[k]?).getD Str.empty
  have e : (List.range bs.length).map (fun k => (bs[k]?).getD Str.empty) = bs := pick_range bs
  rw [e] at q
  exact q
theorem pile_of {n : Nat} {qs : List Nat} (h0 : 0 < n) (h7 : n ≤ 7) (h : qs.Perm (List.range n)) : IsPile (pick (books.take n) qs) := by
  have hl : (books.take n).length = n := by
    rw [List.length_take]
    show min n 7 = n
    omega
  have p : (pick (books.take n) qs).Perm (books.take n) := pick_perm (by rw [hl]; exact h)
  refine ⟨p.nodup_iff.mpr (books_nd.sublist (List.take_sublist _ _)), ?_, ?_, fun b hb => List.mem_of_mem_take (p.mem_iff.mp hb)⟩
  · rw [p.length_eq, hl]
    exact h0
  · rw [p.length_eq, hl]
    exact h7
def spPile : Sp := fun vs H Q _ => ∃ (T S : Addr) (ns : List Int) (m : Int), vs = [.ref T, .int m] ∧ Tape H T S ns ∧ 0 < m ∧ m ≤ 7 ∧
  ∀ (p : Addr) (H' : Hp) (bs : List Str), SameT T H H' → Tape H' T S ns → H p = none → TpO H' p (bs.map V.str) → IsPile bs → (bs.length : Int) ≤ m → Q (.ref p) H'
def spReadings : Sp := fun vs H Q _ => ∃ (T S p : Addr) (ns : List Int) (bs : List Str) (m : Int), vs = [.ref T, .ref p, .int m] ∧ Tape H T S ns ∧ TpO H p (bs.map V.str) ∧ 0 < bs.length ∧ bs.length ≤ 7 ∧ 0 ≤ m ∧ m ≤ 60 ∧
  ∀ (l : Addr) (H' : Hp) (rs : List Str), SameT T H H' → Tape H' T S ns → H l = none → H' l = some (.lst (rs.map V.str)) → (rs.length : Int) ≤ m → (∀ b ∈ rs, b ∈ bs) → Q (.ref l) H'
theorem lay_map (bs : List Str) (b : Str) : (lay bs b).map V.str = [V.str b] ++ ((bs.take (bs.idxOf b)).map V.str ++ (bs.drop (bs.idxOf b + 1)).map V.str) := by
  unfold lay
  rw [List.map_cons, List.eraseIdx_eq_take_drop_succ, List.map_append]
  rfl
def spLaid : Sp := fun vs H Q _ => ∃ (p : Addr) (bs : List Str) (b : Str), vs = [.ref p, .str b] ∧ TpO H p (bs.map V.str) ∧ b ∈ bs ∧ bs.length ≤ 1000 ∧
  ∀ (q : Addr) (H' : Hp), Same H H' → TpO H' q ((lay bs b).map V.str) → Q (.ref q) H'
def spAbove : Sp := fun vs H Q _ => ∃ (p : Addr) (bs : List Str) (b : Str), vs = [.ref p, .str b] ∧ TpO H p (bs.map V.str) ∧ b ∈ bs ∧
  ∀ (q : Addr) (H' : Hp), Same H H' → H' q = some (.tup ((over bs b).map V.str)) → Q (.ref q) H'
def spAsPair : Sp := fun vs H Q _ => ∃ a b : Str, vs = [.str a, .str b] ∧ ∀ q : Addr, H q = none → Q (.ref q) (upd H q (.tup [.str (asPair (a, b)).1, .str (asPair (a, b)).2]))
def spBehind : Sp := fun vs H Q _ => ∃ (p r : Addr) (bs rs : List Str), vs = [.ref p, .ref r] ∧ TpO H p (bs.map V.str) ∧ H r = some (.lst (rs.map V.str)) ∧ bs.length ≤ 1000 ∧ (∀ b ∈ rs, b ∈ bs) ∧
  ∀ (q : Addr) (H' : Hp), Same H H' → TpO H' q ((behindM bs rs).map V.str) → Q (.ref q) H'
theorem take_step {rs : List Str} {i : Nat} {b : Str} (h : rs[i]? = some b) : rs.take (i + 1) = rs.take i ++ [b] := by
  rw [List.take_add_one, h]
  rfl
theorem take_sub {bs rs : List Str} (h : ∀ b ∈ rs, b ∈ bs) (i : Nat) : ∀ b ∈ rs.take i, b ∈ bs := fun b hb => h b (List.mem_of_mem_take hb)
theorem strs_get {rs : List Str} {i : Nat} {x : V} (h : (rs.map V.str)[i]? = some x) : ∃ b, rs[i]? = some b ∧ x = .str b := by
  rw [List.getElem?_map] at h
  cases e : rs[i]? with
  | none =>
    rw [e] at h
    cases h
  | some b =>
    rw [e] at h
    cases h
    exact ⟨b, rfl, rfl⟩
def spLifted : Sp := fun vs H Q _ => ∃ (p r : Addr) (bs rs : List Str), vs = [.ref p, .ref r] ∧ TpO H p (bs.map V.str) ∧ H r = some (.lst (rs.map V.str)) ∧ bs.length ≤ 1000 ∧ rs.length ≤ 1000 ∧ (∀ b ∈ rs, b ∈ bs) ∧
  ∀ (l : Addr) (H' : Hp), Same H H' → H l = none → H' l = some (.lst ((liftedM bs rs).map natV)) → Q (.ref l) H'
theorem liftedM_len (bs : List Str) : ∀ rs : List Str, (liftedM bs rs).length = rs.length := by
  intro rs
  induction rs generalizing bs with
  | nil => rfl
  | cons x r ih => exact congrArg (· + 1) (ih (lay bs x))
def KeepT (H H' : Hp) : Prop := ∀ b xs, H b = some (.tup xs) → H' b = some (.tup xs)
theorem KeepT.of {H H' : Hp} (s : Same H H') : KeepT H H' := fun b xs h => s _ _ h
theorem KeepT.put {H : Hp} {D : Addr} {o : HO} {u : HO} (h : H D = some u) (n : ∀ xs, u ≠ .tup xs) : KeepT H (upd H D o) := fun b xs q => by
  rw [upd_ne (ne_of q h fun z => n xs z.symm)]
  exact q
theorem KeepT.trans {H H1 H2 : Hp} (a : KeepT H H1) (b : KeepT H1 H2) : KeepT H H2 := fun c xs h => b c xs (a c xs h)
def PairsL (H : Hp) (ts : List Addr) (ps : List (Str × Str)) : Prop := ts.length = ps.length ∧ ∀ (i : Nat) (t : Addr) (q : Str × Str), ts[i]? = some t → ps[i]? = some q → H t = some (.tup [.str q.1, .str q.2])
theorem PairsL.nil (H : Hp) : PairsL H [] [] := ⟨rfl, fun i t q h => by simp at h⟩
theorem PairsL.move {H H' : Hp} {ts : List Addr} {ps : List (Str × Str)} (h : PairsL H ts ps) (k : KeepT H H') : PairsL H' ts ps := ⟨h.1, fun i t q a b => k _ _ (h.2 i t q a b)⟩
theorem PairsL.snoc {H : Hp} {ts : List Addr} {ps : List (Str × Str)} {t : Addr} {q : Str × Str} (h : PairsL H ts ps) (ht : H t = some (.tup [.str q.1, .str q.2])) : PairsL H (ts ++ [t]) (ps ++ [q]) := by
  refine ⟨by rw [List.length_append, List.length_append, h.1]; rfl, fun i t' q' a b => ?_⟩
  by_cases hi : i < ts.length
  · rw [List.getElem?_append_left hi] at a
    rw [List.getElem?_append_left (by rw [← h.1]; exact hi)] at b
    exact h.2 i t' q' a b
  · rw [List.getElem?_append_right (by omega)] at a
    rw [List.getElem?_append_right (by rw [← h.1]; omega), ← h.1] at b
    by_cases hz : i - ts.length = 0
    · rw [hz] at a b
      cases a
      cases b
      exact ht
    · rw [List.getElem?_eq_none (by rw [List.length_singleton]; omega)] at a
      cases a
abbrev sPairsData (ps : List (Str × Str)) : List PyData := ps.map fun q => .tuple [.str q.1, .str q.2]
theorem PairsL.dp {K : PySem.W.Frag} {H : Hp} : ∀ {ts : List Addr} {ps : List (Str × Str)}, PairsL H ts ps → DpAll K H (ts.map V.ref) (sPairsData ps)
  | [], [], _ => .nil
  | [], q :: r, h => by cases h.1
  | t :: ts, [], h => by cases h.1
  | t :: ts, q :: r, h => by
    refine .cons (.tup (sqt (h.2 0 t q rfl rfl)) (.cons (.str _) (.cons (.str _) .nil))) (PairsL.dp ⟨by simpa using h.1, fun i t' q' a b => h.2 (i + 1) t' q' a b⟩)
def spPairs (K : PySem.W.Frag) : Sp := fun vs H Q _ => ∃ (p : Addr) (bs : List Str), vs = [.ref p] ∧ SqT K H p (bs.map V.str) ∧ bs.length ≤ 20 ∧
  ∀ (l : Addr) (H' : Hp) (ys : List Str) (ts : List Addr), Same H H' → ys.Perm bs → sortedS ys = true → H l = none → H' l = some (.lst (ts.map V.ref)) → PairsL H' ts (prs ys ys.length) → Q (.ref l) H'
def key (q : Str × Str) : List Key := [Sum.inr q.1, Sum.inr q.2]
theorem key_inj {q r : Str × Str} (h : key q = key r) : q = r := by
  unfold key at h
  injection h with h1 h2
  injection h2 with h2 _
  injection h1 with h1
  injection h2 with h2
  exact Prod.ext h1 h2
theorem key_map (q : Str × Str) : (key q).map kV = [V.str q.1, V.str q.2] := rfl
def Counts (kvs : List (List Key × V)) (ps : List (Str × Str)) (rows : List (Str × Str)) : Prop := ∀ q ∈ ps, valV kvs (key q) = some (natV (cnt rows q))
theorem Counts.more {kvs : List (List Key × V)} {ps rows : List (Str × Str)} (h : Counts kvs ps rows) {r : Str × Str} (hr : asPair r ∈ ps) :
    Counts (putK kvs (key (asPair r)) (.int ((cnt rows (asPair r) : Int) + 1))) ps (rows ++ [r]) := fun q hq => by
  rw [valV_put, cnt_snoc]
  by_cases e : asPair r = q
  · subst e
    rw [if_pos rfl, if_pos rfl]
    rfl
  · rw [if_neg (fun z => e (key_inj z).symm), if_neg e, Nat.add_zero]
    exact h q hq
abbrev tri (rows : List (Str × Str)) (q : Str × Str) : PyData := .tuple [.str q.1, .str q.2, .int (cnt rows q : Nat)]
def TriL (rows : List (Str × Str)) (H : Hp) (ts : List Addr) (ps : List (Str × Str)) : Prop := ts.length = ps.length ∧
  ∀ (i : Nat) (t : Addr) (q : Str × Str), ts[i]? = some t → ps[i]? = some q → H t = some (.tup [.str q.1, .str q.2, natV (cnt rows q)])
theorem TriL.move {rows : List (Str × Str)} {H H' : Hp} {ts : List Addr} {ps : List (Str × Str)} (h : TriL rows H ts ps) (k : KeepT H H') : TriL rows H' ts ps := ⟨h.1, fun i t q a b => k _ _ (h.2 i t q a b)⟩
theorem TriL.snoc {rows : List (Str × Str)} {H : Hp} {ts : List Addr} {ps : List (Str × Str)} {t : Addr} {q : Str × Str} (h : TriL rows H ts ps) (ht : H t = some (.tup [.str q.1, .str q.2, natV (cnt rows q)])) : TriL rows H (ts ++ [t]) (ps ++ [q]) := by
  refine ⟨by rw [List.length_append, List.length_append, h.1]; rfl, fun i t' q' a b => ?_⟩
  by_cases hi : i < ts.length
  · rw [List.getElem?_append_left hi] at a
    rw [List.getElem?_append_left (by rw [← h.1]; exact hi)] at b
    exact h.2 i t' q' a b
  · rw [List.getElem?_append_right (by omega)] at a
    rw [List.getElem?_append_right (by rw [← h.1]; omega), ← h.1] at b
    by_cases hz : i - ts.length = 0
    · rw [hz] at a b
      cases a
      cases b
      exact ht
    · rw [List.getElem?_eq_none (by rw [List.length_singleton]; omega)] at a
      cases a
theorem TriL.dp {rows : List (Str × Str)} {K : PySem.W.Frag} {H : Hp} : ∀ {ts : List Addr} {ps : List (Str × Str)}, TriL rows H ts ps → DpAll K H (ts.map V.ref) (ps.map (tri rows))
  | [], [], _ => .nil
  | [], q :: r, h => by cases h.1
  | t :: ts, [], h => by cases h.1
  | t :: ts, q :: r, h =>
    .cons (.tup (sqt (h.2 0 t q rfl rfl)) (.cons (.str _) (.cons (.str _) (.cons (.int _) .nil)))) (TriL.dp ⟨by simpa using h.1, fun i t' q' a b => h.2 (i + 1) t' q' a b⟩)
theorem rowsM_len : ∀ {bs : List Str} (rs : List Str), (∀ b ∈ rs, b ∈ bs) → (rowsM bs rs).length ≤ rs.length * bs.length
  | bs, [], _ => Nat.zero_le _
  | bs, b :: r, h => by
    have p := lay_perm (h b (List.mem_cons_self ..))
    have ih := rowsM_len (bs := lay bs b) r fun c hc => p.mem_iff.mpr (h c (List.mem_cons_of_mem _ hc))
    rw [p.length_eq] at ih
    show ((over bs b).map (fun o => (b, o)) ++ rowsM (lay bs b) r).length ≤ (r.length + 1) * bs.length
    rw [List.length_append, List.length_map, Nat.succ_mul]
    have z : (over bs b).length ≤ bs.length := by
      unfold over
      rw [List.length_take]
      omega
    omega
def spPassings (K : PySem.W.Frag) : Sp := fun vs H Q _ => ∃ (p r : Addr) (bs rs : List Str), vs = [.ref p, .ref r] ∧ TpO H p (bs.map V.str) ∧ H r = some (.lst (rs.map V.str)) ∧ bs.length ≤ 7 ∧ rs.length ≤ 60 ∧ (∀ b ∈ rs, b ∈ bs) ∧
  ∀ (l : Addr) (H' : Hp) (ys : List Str) (xs : List V), Same H H' → H l = none → ys.Perm bs → sortedS ys = true → H' l = some (.lst xs) → DpAll K H' xs ((prs ys ys.length).map (tri (rowsM bs rs))) → Q (.ref l) H'
def spRead : Sp := fun vs H Q _ => ∃ (p r : Addr) (bs rs : List Str), vs = [.ref p, .ref r] ∧ TpO H p (bs.map V.str) ∧ H r = some (.lst (rs.map V.str)) ∧ bs.length ≤ 7 ∧ rs.length ≤ 60 ∧ (∀ b ∈ rs, b ∈ bs) ∧
  ∀ (t a n o : Addr) (H' : Hp) (ts : List Addr), Same H H' → H' t = some (.tup [.ref a, .ref n, .ref o]) → H' a = some (.tup ((behindM bs rs).map V.str)) → H' n = some (.lst ((liftedM bs rs).map natV)) →
    H' o = some (.lst (ts.map V.ref)) → PairsL H' ts (rowsM bs rs) → Q (.ref t) H'
theorem flat_map (ss : List Str) : (ss.map V.str).all flatV = true := flat_strs ss
theorem eqv_two (a b c d : Str) : PyData.eqv (.list [.str a, .str b]) (.list [.str c, .str d]) = decide ((a, b) = (c, d)) := by
  simp only [PyData.eqv, PyData.eqvAll, Bool.and_true]
  by_cases h1 : a = c
  · by_cases h2 : b = d
    · subst h1 h2
      simp
    · have z : (b == d) = false := beq_eq_false_iff_ne.mpr h2
      rw [z, Bool.and_false]
      exact (decide_eq_false fun e => h2 (Prod.mk.inj e).2).symm
  · have z : (a == c) = false := beq_eq_false_iff_ne.mpr h1
    rw [z, Bool.false_and]
    exact (decide_eq_false fun e => h1 (Prod.mk.inj e).1).symm
theorem shaped_two {a b : Str} (ha : PyData.strOk a = true) (hb : PyData.strOk b = true) : SeqAt.shaped (.list [.str a, .str b]) = true :=
  shaped_of (by simp [PyData.canLay0, PyData.canLayAll0, ha, hb]) (by simp [PyData.depth, PyData.depthAll])
def spTwo (K : PySem.W.Frag) : Sp := fun vs H Q _ => ∃ (p r : Addr) (bs : List Str) (ts : List Addr) (rows : List (Str × Str)), vs = [.ref p, .ref r] ∧ SqT K H p (bs.map V.str) ∧ bs.length ≤ 7 ∧ (∀ b ∈ bs, PyData.strOk b = true) ∧
  H r = some (.lst (ts.map V.ref)) ∧ PairsL H ts rows ∧ rows.length ≤ 900 ∧ (∀ z ∈ rows, PyData.strOk z.1 = true ∧ PyData.strOk z.2 = true) ∧
  ∀ (l : Addr) (H' : Hp) (ys : List Str) (xs : List V), Same H H' → H l = none → ys.Perm bs → sortedS ys = true → H' l = some (.lst xs) → DpAll K H' xs ((prs ys ys.length).map (tri rows)) → Q (.ref l) H'
def kindName : PyData → String
  | .none => "NoneType"
  | .bool _ => "bool"
  | .int _ => "int"
  | .str _ => "str"
  | .list _ => "list"
  | .tuple _ => "tuple"
  | .dict _ => "dict"
theorem ty_dp {H : Hp} {v : V} {d : PyData} (h : Dp K H v d) : TyX K H v (.type (kindName d)) := by
  cases h with
  | non => exact .base .non
  | bl b => exact .base (.bl b)
  | int i => exact .base (.int i)
  | str x => exact .base (.str x)
  | lst h a =>
    rcases h with (h | ⟨o, h⟩) | ⟨o, its, n, h, hc, _⟩
    · exact .base (.lst h)
    · exact .base (.frz h)
    · exact .kList h hc
  | tup h a =>
    rcases h with (h | ⟨o, h⟩) | ⟨o, its, n, h, hc, _⟩
    · exact .base (.tup h)
    · exact .fTuple h
    · exact .kTuple h hc
def Fine : Nat → PyData → Prop
  | _, .none => True
  | _, .bool _ => True
  | _, .int _ => True
  | _, .str x => PyData.strOk x = true
  | 0, .list _ => False
  | 0, .tuple _ => False
  | n + 1, .list ds => ds.length ≤ 1000 ∧ ∀ d ∈ ds, Fine n d
  | n + 1, .tuple ds => ds.length ≤ 1000 ∧ ∀ d ∈ ds, Fine n d
  | _, .dict _ => False
theorem kit_yes {K : PySem.W.Frag} {a : String} {cs : List Value} {b : String} (h : kitB a b = some true) : PySem.W.kitAny K (.type a) (.type b :: cs) = some true :=
  kitAny_cons (kit_ty h) (fun z => nomatch z) fun _ => rfl
theorem kit_no {K : PySem.W.Frag} {a : String} {cs : List Value} {b : String} {r : Bool} (h : kitB a b = some false) (t : PySem.W.kitAny K (.type a) cs = some r) : PySem.W.kitAny K (.type a) (.type b :: cs) = some r :=
  kitAny_cons (kit_ty h) (fun _ => t) fun z => nomatch z
theorem ixS (e : X.K = K) : IxR X (rIx K) := by
  subst e
  exact ix_seq
def spLike (K : PySem.W.Frag) (n : Nat) : Sp := fun vs H Q _ => ∃ (v1 v2 : V) (d : PyData) (m : Nat), n = m + 1 ∧ vs = [v1, v2] ∧ Dp K H v1 d ∧ Dp K H v2 d ∧ Fine m d ∧ ∀ H', Same H H' → Q (.bl true) H'
theorem fine_strs {ss : List Str} (hl : ss.length ≤ 1000) (ok : ∀ b ∈ ss, PyData.strOk b = true) (n : Nat) : Fine (n + 1) (.tuple (ss.map PyData.str)) := by
  refine ⟨by rw [List.length_map]; exact hl, fun d hd => ?_⟩
  obtain ⟨b, hb, rfl⟩ := List.mem_map.mp hd
  cases n <;> exact ok b hb
theorem fine_nats {ns : List Nat} (hl : ns.length ≤ 1000) (n : Nat) : Fine (n + 1) (.list ((ns.map fun k : Nat => (k : Int)).map PyData.int)) := by
  refine ⟨by rw [List.length_map, List.length_map]; exact hl, fun d hd => ?_⟩
  obtain ⟨b, hb, rfl⟩ := List.mem_map.mp hd
  cases n <;> exact True.intro
theorem natV_map (ns : List Nat) : ns.map natV = (ns.map fun k : Nat => (k : Int)).map V.int := by
  rw [List.map_map]
  rfl
theorem prs_sub {ys : List Str} : ∀ {n : Nat} {q : Str × Str}, q ∈ prs ys n → q.1 ∈ ys ∧ q.2 ∈ ys
  | 0, q, h => by cases h
  | n + 1, q, h => by
    cases e : ys[n]? with
    | none =>
      have e2 : prs ys (n + 1) = prs ys n ++ (match ys[n]? with | some a => (ys.drop (n + 1)).map fun b => (a, b) | none => []) := rfl
      rw [e2, e, List.append_nil] at h
      exact prs_sub h
    | some a =>
      rw [prs_succ e] at h
      rcases List.mem_append.mp h with h | h
      · exact prs_sub h
      · obtain ⟨b, hb, rfl⟩ := List.mem_map.mp h
        exact ⟨List.mem_of_getElem? e, List.mem_of_mem_drop hb⟩
theorem fine_tri {ys : List Str} {rows : List (Str × Str)} (hl : ys.length ≤ 7) (ok : ∀ b ∈ ys, PyData.strOk b = true) (n : Nat) : Fine (n + 2) (.list ((prs ys ys.length).map (tri rows))) := by
  have lp : (prs ys ys.length).length ≤ 49 := by
    have z := prs_len ys ys.length
    have z2 : ys.length * ys.length ≤ 7 * 7 := Nat.mul_le_mul hl hl
    omega
  refine ⟨by rw [List.length_map]; omega, fun d hd => ?_⟩
  obtain ⟨q, hq, rfl⟩ := List.mem_map.mp hd
  have z := prs_sub hq
  refine ⟨by show 3 ≤ 1000; decide, fun d hd => ?_⟩
  simp only [List.mem_cons, List.not_mem_nil, or_false] at hd
  rcases hd with rfl | rfl | rfl
  · cases n <;> exact ok _ z.1
  · cases n <;> exact ok _ z.2
  · cases n <;> exact True.intro
theorem fine_can : ∀ (n : Nat) (d : PyData), Fine n d → d.canLay0 = true ∧ d.depth ≤ n
  | n, .none, _ => ⟨by simp [PyData.canLay0], by simp [PyData.depth]⟩
  | n, .bool _, _ => ⟨by simp [PyData.canLay0], by simp [PyData.depth]⟩
  | n, .int _, _ => ⟨by simp [PyData.canLay0], by simp [PyData.depth]⟩
  | n, .str x, h => by
    have h' : PyData.strOk x = true := by cases n <;> exact h
    exact ⟨by simp [PyData.canLay0, h'], by simp [PyData.depth]⟩
  | 0, .list _, h => h.elim
  | 0, .tuple _, h => h.elim
  | n + 1, .list ds, h => by
    have a := fun d hd => fine_can n d (h.2 d hd)
    refine ⟨by rw [PyData.canLay0]; exact canAll ds fun d hd => (a d hd).1, ?_⟩
    rw [PyData.depth]
    exact Nat.succ_le_succ (depthAll_le ds fun d hd => (a d hd).2)
  | n + 1, .tuple ds, h => by
    have a := fun d hd => fine_can n d (h.2 d hd)
    refine ⟨by rw [PyData.canLay0]; exact canAll ds fun d hd => (a d hd).1, ?_⟩
    rw [PyData.depth]
    exact Nat.succ_le_succ (depthAll_le ds fun d hd => (a d hd).2)
  | n, .dict _, h => by cases n <;> exact h.elim
theorem fine_shaped {n : Nat} {d : PyData} (h : Fine n d) (hn : n ≤ 64) : SeqAt.shaped d = true := shaped_of (fine_can n d h).1 (Nat.le_trans (fine_can n d h).2 hn)
theorem fine_eqv {n : Nat} {d : PyData} (h : Fine n d) : PyData.eqv d d = true := PySem.SeqAt.eqv_refl d (fine_can n d h).1
theorem rowsM_sub : ∀ {bs : List Str} (rs : List Str), (∀ b ∈ rs, b ∈ bs) → ∀ z ∈ rowsM bs rs, z.1 ∈ bs ∧ z.2 ∈ bs
  | bs, [], _, z, hz => by cases hz
  | bs, b :: r, h, z, hz => by
    have hb := h b (List.mem_cons_self ..)
    have p := lay_perm hb
    rcases List.mem_append.mp (show z ∈ (over bs b).map (fun o => (b, o)) ++ rowsM (lay bs b) r from hz) with hz | hz
    · obtain ⟨o, ho, rfl⟩ := List.mem_map.mp hz
      exact ⟨hb, over_mem ho⟩
    · have q := rowsM_sub (bs := lay bs b) r (fun c hc => p.mem_iff.mpr (h c (List.mem_cons_of_mem _ hc))) z hz
      exact ⟨p.mem_iff.mp q.1, p.mem_iff.mp q.2⟩
def spLaw (K : PySem.W.Frag) : Sp := fun vs H Q _ => ∃ (a : Addr) (ns : List Int), vs = [.ref a] ∧ SqL K H a (ns.map V.int) ∧ ns.length ≤ 63 ∧ ∀ H', Q (.bl true) H'
end
end Lt

set_option Elab.async false
set_option linter.all false
set_option maxRecDepth 100000
set_option maxHeartbeats 4000000
namespace Lt
open PySem PySem.Spec PyProof.Rows L2
/-! rows of texts compared, asked, cut -/
theorem eqvAll_strs : ∀ xs ys : List Str, PyData.eqvAll (xs.map PyData.str) (ys.map PyData.str) = decide (xs = ys)
  | [], [] => rfl
  | [], y :: r => rfl
  | x :: r, [] => rfl
  | x :: r, y :: t => by
    show ((x == y) && PyData.eqvAll (r.map PyData.str) (t.map PyData.str)) = _
    rw [eqvAll_strs r t]
    by_cases c : x = y
    · subst c
      rw [beq_self_eq_true, Bool.true_and, decide_eq_decide]
      exact ⟨fun h => by rw [h], fun h => (List.cons.inj h).2⟩
    · rw [beq_eq_false_iff_ne.mpr c, Bool.false_and]
      exact (decide_eq_false fun h => c (List.cons.inj h).1).symm
theorem eqvL_strs (xs ys : List Str) : PyData.eqv (.list (xs.map PyData.str)) (.list (ys.map PyData.str)) = decide (xs = ys) := by
  rw [← eqvAll_strs]
  simp only [PyData.eqv]
theorem eqvT_strs (xs ys : List Str) : PyData.eqv (.tuple (xs.map PyData.str)) (.tuple (ys.map PyData.str)) = decide (xs = ys) := by
  rw [← eqvAll_strs]
  simp only [PyData.eqv]
theorem inV_strs (b : Str) (l : List Str) : inV (.str b) (l.map V.str) = decide (b ∈ l) := by
  unfold inV
  induction l with
  | nil => rfl
  | cons x r ih =>
    rw [List.map_cons, List.any_cons, ih]
    show ((x == b) || decide (b ∈ r)) = decide (b ∈ x :: r)
    by_cases e : x = b
    · subst e
      simp
    · have z : (x == b) = false := beq_eq_false_iff_ne.mpr e
      rw [z, Bool.false_or]
      by_cases c : b ∈ r
      · simp [c]
      · simp [c, Ne.symm e]
theorem oIn {X : Cx} {K : PySem.W.Frag} (e : X.K = K) : OpR X (compareOp .In) (rIn K false) := by
  subst e
  exact op_in_seq
theorem cut_all {xs : List V} {lo hi : Option Int} (h : HT.sIx xs.length 0 lo = 0 ∧ HT.sIx xs.length xs.length hi = xs.length) : cutV xs lo hi = xs := by
  unfold cutV
  rw [h.1, h.2, List.drop_zero, Nat.sub_zero, List.take_length]
/-- a tuple's slice: some tuple of the cut -/
theorem sl_of {K : PySem.W.Frag} {H : Hp} {a : Addr} {xs ys : List V} {lo hi : Option Int} {Q : VK} (sq : SqT K H a xs) (e : cutV xs lo hi = ys) (h : ∀ (b : Addr) (H2 : Hp), Same H H2 → SqT K H2 b ys → Q (.ref b) H2) : rSlA K (.ref a) lo hi H Q := by
  refine ⟨a, xs, rfl, sq, fun z => ?_, fun _ p hp => ?_⟩
  · rw [cut_all z] at e
    subst e
    exact h a H (fun _ _ h => h) sq
  · rw [e]
    exact h p _ (same_new hp _) (sqt upd_same)
theorem sl_lo {K : PySem.W.Frag} {σ : L2.St} {H : Hp} {a : Addr} {xs ys : List V} {lo : Option Int} {Q : VK} (sq : SqT K H a xs) (e : cutV xs lo none = ys) (h : ∀ (b : Addr) (H2 : Hp), Same H H2 → SqT K H2 b ys → Q (.ref b) H2) :
    tNoPart σ H fun u H3 => rSlA K (.ref a) lo u H3 Q := sl_of (lo := lo) (hi := none) sq e h
theorem filt_y {α : Type} {p : α → Bool} {b : α} (c : p b = true) : [b].filter p = [b] := by
  rw [List.filter_cons_of_pos c, List.filter_nil]
theorem filt_n {α : Type} {p : α → Bool} {b : α} (c : ¬ p b = true) : [b].filter p = [] := by
  rw [List.filter_cons_of_neg c, List.filter_nil]
/-- an expression with a word behind it: what follows is shown once -/
def tMid (te : TE) : TE := fun σ H Q => ∃ Mid : V → Hp → Prop, te σ H Mid ∧ ∀ v H', Mid v H' → Q v H'
theorem pe_mid {X : Cx} {e : Expr} {te : TE} (h : PE X e te) : PE X e (tMid te) :=
  ⟨fun pins s σ H Q I ⟨Mid, h1, h2⟩ => thn (h.run pins s σ H Mid I h1) fun v s1 ⟨x, H1, I1, r1, q1⟩ => ⟨x, H1, I1, r1, h2 _ _ q1⟩⟩
/-! a reading's first step, by its name -/
theorem un_seq {t u : TS} {D : Ends} {σ : L2.St} {H : Hp} (h : t { D with nx := u D } σ H) : tSeq t u D σ H := h
theorem un_if {r : R2} {a b : TE} {t u : TS} {D : Ends} {σ : L2.St} {H : Hp} (h : a σ H fun x H1 => b σ H1 fun y H2 => r x y H2 fun v H3 => ∃ k, v = .bl k ∧ if k = true then t D σ H3 else u D σ H3) : tIfS (tTest (tOp r a b)) t u D σ H := h
theorem un_asg {te : TE} {g : TG} {D : Ends} {σ : L2.St} {H : Hp} (h : te σ H fun x H1 => g x σ H1 D.nx) : tAsg te g D σ H := h
theorem un_for {wi : TI} {g : TG} {tb : TS} {D : Ends} {σ : L2.St} {H : Hp} (h : wi σ H fun J H1 => ∃ W : Nat → Nat → L2.St → Hp → Prop, (∃ m, W 0 m σ H1) ∧ ∀ i m σ H, W i m σ H →
  (J.stop i H ∧ D.nx σ H) ∨ (J.go i H ∧ ∃ N : L2.St → Hp → Prop, (∀ σ' H', N σ' H' → ∃ m', m' < m ∧ W (i + 1) m' σ' H') ∧ ∀ x H', J.yld i H x H' → g x σ H' fun σ2 H2 => tb { D with nx := N, ct := N, bk := D.nx } σ2 H2)) : tFor wi g tb D σ H := h
theorem cut_low {xs : List V} {j : Nat} {z : Int} (e : z = (j : Int)) (h : j ≤ xs.length) : cutV xs (some z) none = xs.drop j := by
  rw [e]
  exact cut_from h
theorem cut_high {xs : List V} {j : Nat} {z : Int} (e : z = (j : Int)) (h : j ≤ xs.length) : cutV xs none (some z) = xs.take j := by
  rw [e]
  exact cut_to h
end Lt

set_option Elab.async false
set_option linter.all false
set_option maxRecDepth 100000
set_option maxHeartbeats 4000000
namespace Lt
open PySem PySem.Spec PyProof.Rows L2
/-! ### neighbours that differ -/
def adj : List Str → Nat
  | [] => 0
  | [_] => 0
  | x :: y :: r => (if x = y then 0 else 1) + adj (y :: r)
theorem adj_append : ∀ (l : List Str) (x : Str) (r : List Str), adj (l ++ x :: r) = adj (l ++ [x]) + adj (x :: r)
  | [], x, r => by
    show adj (x :: r) = adj [x] + _
    exact (Nat.zero_add _).symm
  | [a], x, r => by
    show (if a = x then 0 else 1) + adj (x :: r) = ((if a = x then 0 else 1) + 0) + _
    rw [Nat.add_zero]
  | a :: b :: l, x, r => by
    show (if a = b then 0 else 1) + adj (b :: l ++ x :: r) = ((if a = b then 0 else 1) + adj (b :: l ++ [x])) + _
    rw [adj_append (b :: l) x r, Nat.add_assoc]
theorem adj_reverse : ∀ l : List Str, adj l.reverse = adj l
  | [] => rfl
  | [_] => rfl
  | x :: y :: r => by
    have e : (x :: y :: r).reverse = r.reverse ++ y :: [x] := by simp
    have e2 : (y :: r).reverse = r.reverse ++ [y] := by simp
    rw [e, adj_append, ← e2, adj_reverse (y :: r)]
    show _ + ((if y = x then 0 else 1) + 0) = (if x = y then 0 else 1) + _
    by_cases c : x = y
    · rw [if_pos c, if_pos c.symm]
      omega
    · rw [if_neg c, if_neg fun z => c z.symm]
      omega
/-- around: the last one ahead of the first -/
def cyc (l : List Str) : Nat := match l.getLast? with
  | none => 0
  | some z => adj (z :: l)
theorem cyc_snoc (l : List Str) (z : Str) : cyc (l ++ [z]) = adj (z :: (l ++ [z])) := by
  unfold cyc
  rw [List.getLast?_concat]
theorem snoc_of {l : List Str} (h : l ≠ []) : ∃ m z, l = m ++ [z] := ⟨l.dropLast, l.getLast h, (List.dropLast_concat_getLast h).symm⟩
theorem cyc_turn (u v : List Str) : cyc (u ++ v) = cyc (v ++ u) := by
  by_cases hu : u = []
  · rw [hu, List.append_nil]
    rfl
  by_cases hv : v = []
  · rw [hv, List.append_nil]
    rfl
  obtain ⟨u', p, rfl⟩ := snoc_of hu
  obtain ⟨v', q, rfl⟩ := snoc_of hv
  have e1 : (u' ++ [p]) ++ (v' ++ [q]) = (u' ++ [p] ++ v') ++ [q] := by simp
  have e2 : (v' ++ [q]) ++ (u' ++ [p]) = (v' ++ [q] ++ u') ++ [p] := by simp
  rw [e1, e2, cyc_snoc, cyc_snoc]
  have f1 : q :: (u' ++ [p] ++ v' ++ [q]) = (q :: u') ++ p :: (v' ++ [q]) := by simp
  have f2 : p :: (v' ++ [q] ++ u' ++ [p]) = (p :: v') ++ q :: (u' ++ [p]) := by simp
  rw [f1, f2, adj_append (q :: u') p, adj_append (p :: v') q]
  show adj (q :: u' ++ [p]) + adj (p :: v' ++ [q]) = adj (p :: v' ++ [q]) + adj (q :: u' ++ [p])
  exact Nat.add_comm _ _
theorem cyc_back (l : List Str) : cyc l.reverse = cyc l := by
  cases l with
  | nil => rfl
  | cons a r =>
    obtain ⟨m, z, e⟩ := snoc_of (l := a :: r) (by simp)
    have e1 : (a :: r).reverse = r.reverse ++ [a] := by simp
    rw [e1, cyc_snoc]
    have e2 : cyc (a :: r) = adj (z :: a :: r) := by
      conv =>
        lhs
        rw [e, cyc_snoc, ← e]
    have e3 : (z :: a :: r).reverse = r.reverse ++ a :: [z] := by simp
    have e4 : a :: (r.reverse ++ [a]) = a :: (a :: r).reverse := by simp
    rw [e2, ← adj_reverse (z :: a :: r), e3, adj_append, e4]
    have e5 : (a :: r).reverse = z :: m.reverse := by rw [e]; simp
    have e6 : adj (r.reverse ++ [a]) = adj (z :: m.reverse) := by rw [← e5]; simp
    rw [e6, e5]
    show (if a = z then 0 else 1) + _ = _ + ((if a = z then 0 else 1) + 0)
    omega
/-! ### two books alone -/
theorem asPair_swap (a b : Str) : asPair (a, b) = asPair (b, a) := by
  unfold asPair
  by_cases c : ltS a b
  · rw [if_pos c, if_neg (ltS_asymm c)]
  · rw [if_neg c]
    by_cases d : ltS b a
    · rw [if_pos d]
    · rw [if_neg d, ltS_tri c d]
theorem asPair_eq {a b c d : Str} (h : asPair (a, b) = asPair (c, d)) : (a = c ∧ b = d) ∨ (a = d ∧ b = c) := by
  unfold asPair at h
  by_cases c1 : ltS a b
  · rw [if_pos c1] at h
    by_cases c2 : ltS c d
    · rw [if_pos c2] at h
      exact .inl ⟨(Prod.mk.inj h).1, (Prod.mk.inj h).2⟩
    · rw [if_neg c2] at h
      exact .inr ⟨(Prod.mk.inj h).1, (Prod.mk.inj h).2⟩
  · rw [if_neg c1] at h
    by_cases c2 : ltS c d
    · rw [if_pos c2] at h
      exact .inr ⟨(Prod.mk.inj h).2, (Prod.mk.inj h).1⟩
    · rw [if_neg c2] at h
      exact .inl ⟨(Prod.mk.inj h).2, (Prod.mk.inj h).1⟩
def two (x y : Str) (l : List Str) : List Str := l.filter fun z => decide (z = x ∨ z = y)
theorem two_append (x y : Str) (a b : List Str) : two x y (a ++ b) = two x y a ++ two x y b := List.filter_append ..
theorem two_in {x y b : Str} (h : b = x ∨ b = y) (r : List Str) : two x y (b :: r) = b :: two x y r := List.filter_cons_of_pos (by simpa using h)
theorem two_out {x y b : Str} (h : ¬ (b = x ∨ b = y)) (r : List Str) : two x y (b :: r) = two x y r := List.filter_cons_of_neg (by simpa using h)
theorem two_mem {x y z : Str} {l : List Str} : z ∈ two x y l ↔ z ∈ l ∧ (z = x ∨ z = y) := by
  unfold two
  rw [List.mem_filter, decide_eq_true_iff]
theorem cnt_append (a b : List (Str × Str)) (q : Str × Str) : cnt (a ++ b) q = cnt a q + cnt b q := by
  unfold cnt
  rw [List.filter_append, List.length_append]
theorem two_lay {bs : List Str} (nd : bs.Nodup) (x y b : Str) : two x y (lay bs b) = (if b = x ∨ b = y then [b] else []) ++ (two x y bs).filter fun z => decide (z ≠ b) := by
  rw [lay_filter nd]
  have e : two x y (bs.filter fun z => decide (z ≠ b)) = (two x y bs).filter fun z => decide (z ≠ b) := by
    unfold two
    rw [List.filter_filter, List.filter_filter]
    apply List.filter_congr
    intro z _
    exact Bool.and_comm _ _
  by_cases c : b = x ∨ b = y
  · rw [two_in c, if_pos c, e]
    rfl
  · rw [two_out c, if_neg c, e]
    rfl
/-- how often both are in a passing of b -/
theorem cnt_over {bs : List Str} {b t o : Str} (h : b = t) (ne : t ≠ o) : ∀ l : List Str, (cnt (l.map fun z => (b, z)) (asPair (t, o))) = (l.filter fun z => decide (z = o)).length := by
  subst h
  intro l
  unfold cnt
  rw [List.filter_map, List.length_map]
  congr 1
  apply List.filter_congr
  intro z _
  show decide (asPair (b, z) = asPair (b, o)) = decide (z = o)
  rw [decide_eq_decide]
  constructor
  · intro e
    rcases asPair_eq e with ⟨_, e⟩ | ⟨e, _⟩
    · exact e
    · exact absurd e ne
  · intro e
    rw [e]
theorem cnt_none {x y b : Str} (h : ¬ (b = x ∨ b = y)) : ∀ l : List Str, cnt (l.map fun z => (b, z)) (asPair (x, y)) = 0 := by
  intro l
  unfold cnt
  rw [List.length_eq_zero_iff, List.filter_eq_nil_iff]
  intro r hr
  obtain ⟨z, _, rfl⟩ := List.mem_map.mp hr
  intro e
  rcases asPair_eq (of_decide_eq_true e) with ⟨e, _⟩ | ⟨e, _⟩
  · exact h (.inl e)
  · exact h (.inr e)
theorem filter_two {x y t : Str} (h : t = x ∨ t = y) (l : List Str) : (l.filter fun z => decide (z = t)) = (two x y l).filter fun z => decide (z = t) := by
  unfold two
  rw [List.filter_filter]
  apply List.filter_congr
  intro z _
  by_cases c : z = t
  · rw [decide_eq_true c, c, decide_eq_true h]
    rfl
  · rw [decide_eq_false c]
    rfl
theorem cnt_two {x y : Str} (ne : x ≠ y) : ∀ (rs : List Str) {bs : List Str} {t o : Str}, bs.Nodup → two x y bs = [t, o] → (∀ b ∈ rs, b ∈ bs) → cnt (rowsM bs rs) (asPair (x, y)) = adj (t :: two x y rs)
  | [], bs, t, o, nd, e, h => rfl
  | b :: r, bs, t, o, nd, e, h => by
    have hb := h b List.mem_cons_self
    have p := lay_perm hb
    have nd2 : (lay bs b).Nodup := p.nodup_iff.mpr nd
    have h2 : ∀ c ∈ r, c ∈ lay bs b := fun c hc => p.mem_iff.mpr (h c (List.mem_cons_of_mem _ hc))
    have tm : t = x ∨ t = y := (two_mem.mp (by rw [e]; exact List.mem_cons_self)).2
    have om : o = x ∨ o = y := (two_mem.mp (by rw [e]; exact List.mem_cons_of_mem _ List.mem_cons_self)).2
    have nto : t ≠ o := by
      have z : (two x y bs).Nodup := nd.filter _
      rw [e] at z
      have z2 := (List.nodup_cons.mp z).1
      intro c
      exact z2 (by rw [c]; exact List.mem_cons_self)
    have ap : asPair (x, y) = asPair (t, o) := by
      rcases tm with rfl | rfl
      · rcases om with rfl | rfl
        · exact absurd rfl nto
        · rfl
      · rcases om with rfl | rfl
        · exact asPair_swap _ _
        · exact absurd rfl nto
    show cnt ((over bs b).map (fun z => (b, z)) ++ rowsM (lay bs b) r) (asPair (x, y)) = _
    rw [cnt_append]
    obtain ⟨es, nover⟩ := split_at hb
    have es2 : two x y (over bs b) ++ two x y (b :: bs.drop (bs.idxOf b + 1)) = [t, o] := by
      rw [← two_append, ← e]
      exact congrArg (two x y) es.symm
    have nov : b ∉ two x y (over bs b) := fun z => nover (two_mem.mp z).1
    by_cases c : b = x ∨ b = y
    · rw [two_in c] at es2 ⊢
      have bto : b = t ∨ b = o := by
        have z : b ∈ two x y bs := two_mem.mpr ⟨hb, c⟩
        rw [e] at z
        rcases List.mem_cons.mp z with z | z
        · exact .inl z
        · exact .inr (List.mem_singleton.mp z)
      rcases bto with rfl | rfl
      · have z0 : two x y (over bs b) = [] := by
          cases q : two x y (over bs b) with
          | nil => rfl
          | cons a l =>
            rw [q] at es2 nov
            have z := (List.cons.inj es2).1
            exact absurd (by rw [z]; exact List.mem_cons_self) nov
        have l2 : two x y (lay bs b) = [b, o] := by
          rw [two_lay nd, if_pos c, e, List.filter_cons_of_neg (by simp), List.filter_cons_of_pos (by simpa using nto.symm)]
          rfl
        rw [cnt_two ne r nd2 l2 h2, ap, cnt_over (bs := bs) rfl nto, filter_two om, z0]
        show 0 + _ = (if b = b then 0 else 1) + _
        rw [if_pos rfl]
      · have z0 : two x y (over bs b) = [t] := by
          cases q : two x y (over bs b) with
          | nil =>
            rw [q] at es2
            exact absurd (List.cons.inj es2).1.symm nto
          | cons a l =>
            rw [q] at es2 nov
            have z := List.cons.inj es2
            cases l with
            | nil => rw [z.1]
            | cons a2 l2 =>
              have z2 := (List.cons.inj z.2).1
              exact absurd (by rw [← z2]; exact List.mem_cons_of_mem _ List.mem_cons_self) nov
        have l2 : two x y (lay bs b) = [b, t] := by
          rw [two_lay nd, if_pos c, e, List.filter_cons_of_pos (by simpa using nto), List.filter_cons_of_neg (by simp)]
          rfl
        rw [cnt_two ne r nd2 l2 h2, ap, asPair_swap, cnt_over (bs := bs) rfl nto.symm, filter_two tm, z0, List.filter_cons_of_pos (by simp)]
        show 1 + _ = (if t = b then 0 else 1) + _
        rw [if_neg nto]
    · have l2 : two x y (lay bs b) = [t, o] := by
        rw [two_lay nd, if_neg c, e, List.filter_cons_of_pos (by simpa using fun z : t = b => c (z ▸ tm)), List.filter_cons_of_pos (by simpa using fun z : o = b => c (z ▸ om))]
        rfl
      rw [two_out c, cnt_two ne r nd2 l2 h2, cnt_none c, Nat.zero_add]
end Lt

set_option Elab.async false
set_option linter.all false
set_option maxRecDepth 100000
set_option maxHeartbeats 4000000
namespace Lt
open PySem PySem.Spec PyProof.Rows L2
/-! ### the rows of readings -/
theorem rows_in : ∀ {bs : List Str} (rs : List Str), (∀ b ∈ rs, b ∈ bs) → ∀ z ∈ rowsM bs rs, z.1 ∈ bs ∧ z.2 ∈ bs ∧ z.1 ≠ z.2
  | bs, [], _, z, hz => by cases hz
  | bs, b :: r, h, z, hz => by
    have hb := h b List.mem_cons_self
    have p := lay_perm hb
    have hz2 : z ∈ (over bs b).map (fun o => (b, o)) ++ rowsM (lay bs b) r := hz
    rcases List.mem_append.mp hz2 with hz | hz
    · obtain ⟨o, ho, rfl⟩ := List.mem_map.mp hz
      exact ⟨hb, over_mem ho, (over_ne ho).symm⟩
    · obtain ⟨q1, q2, q3⟩ := rows_in (bs := lay bs b) r (fun c hc => p.mem_iff.mpr (h c (List.mem_cons_of_mem _ hc))) z hz
      exact ⟨p.mem_iff.mp q1, p.mem_iff.mp q2, q3⟩
/-! ### which of both lies above -/
def lastOf (t : Str) : List Str → Str
  | [] => t
  | z :: r => lastOf z r
theorem lastOf_get : ∀ (l : List Str) (t : Str), l ≠ [] → l.getLast? = some (lastOf t l)
  | [z], t, _ => rfl
  | z :: y :: r, t, _ => by
    rw [List.getLast?_cons_cons]
    exact lastOf_get (y :: r) z (by simp)
theorem two_behind {x y : Str} : ∀ (rs : List Str) {bs : List Str} {t o : Str}, bs.Nodup → two x y bs = [t, o] → (∀ b ∈ rs, b ∈ bs) → ∃ o', two x y (behindM bs rs) = [lastOf t (two x y rs), o']
  | [], bs, t, o, nd, e, h => ⟨o, e⟩
  | b :: r, bs, t, o, nd, e, h => by
    have hb := h b List.mem_cons_self
    have p := lay_perm hb
    have nd2 : (lay bs b).Nodup := p.nodup_iff.mpr nd
    have h2 : ∀ c ∈ r, c ∈ lay bs b := fun c hc => p.mem_iff.mpr (h c (List.mem_cons_of_mem _ hc))
    have tm : t = x ∨ t = y := (two_mem.mp (by rw [e]; exact List.mem_cons_self)).2
    have om : o = x ∨ o = y := (two_mem.mp (by rw [e]; exact List.mem_cons_of_mem _ List.mem_cons_self)).2
    have nto : t ≠ o := by
      have z : (two x y bs).Nodup := nd.filter _
      rw [e] at z
      have z2 := (List.nodup_cons.mp z).1
      intro c
      exact z2 (by rw [c]; exact List.mem_cons_self)
    show ∃ o', two x y (behindM (lay bs b) r) = _
    by_cases c : b = x ∨ b = y
    · rw [two_in c]
      have bto : b = t ∨ b = o := by
        have z : b ∈ two x y bs := two_mem.mpr ⟨hb, c⟩
        rw [e] at z
        rcases List.mem_cons.mp z with z | z
        · exact .inl z
        · exact .inr (List.mem_singleton.mp z)
      rcases bto with rfl | rfl
      · have l2 : two x y (lay bs b) = [b, o] := by
          rw [two_lay nd, if_pos c, e, List.filter_cons_of_neg (by simp), List.filter_cons_of_pos (by simpa using nto.symm)]
          rfl
        exact two_behind r nd2 l2 h2
      · have l2 : two x y (lay bs b) = [b, t] := by
          rw [two_lay nd, if_pos c, e, List.filter_cons_of_pos (by simpa using nto), List.filter_cons_of_neg (by simp)]
          rfl
        exact two_behind r nd2 l2 h2
    · have l2 : two x y (lay bs b) = [t, o] := by
        rw [two_lay nd, if_neg c, e, List.filter_cons_of_pos (by simpa using fun z : t = b => c (z ▸ tm)), List.filter_cons_of_pos (by simpa using fun z : o = b => c (z ▸ om))]
        rfl
      rw [two_out c]
      exact two_behind r nd2 l2 h2
theorem two_pile : ∀ {bs : List Str} {x y : Str}, bs.Nodup → x ≠ y → x ∈ bs → y ∈ bs → ∃ t o, two x y bs = [t, o] := by
  intro bs x y nd ne hx hy
  have nd2 : (two x y bs).Nodup := nd.filter _
  have p : (two x y bs).Perm [x, y] := by
    refine (List.perm_ext_iff_of_nodup nd2 ?_).mpr fun z => ?_
    · simp [ne]
    · rw [two_mem]
      constructor
      · rintro ⟨_, rfl | rfl⟩
        · exact List.mem_cons_self
        · exact List.mem_cons_of_mem _ List.mem_cons_self
      · intro h
        rcases List.mem_cons.mp h with rfl | h
        · exact ⟨hx, .inl rfl⟩
        · obtain rfl := List.mem_singleton.mp h
          exact ⟨hy, .inr rfl⟩
  have l := p.length_eq
  match q : two x y bs, l with
  | [t, o], _ => exact ⟨t, o, rfl⟩
/-- on each later day two books pass one another as often as they change around -/
theorem day_cyc {ns rs : List Str} {x y : Str} (nd : ns.Nodup) (h : ∀ b ∈ rs, b ∈ ns) (hx : x ∈ rs) (hy : y ∈ ns) (ne : x ≠ y) : cnt (rowsM (behindM ns rs) rs) (asPair (x, y)) = cyc (two x y rs) := by
  obtain ⟨t, o, e⟩ := two_pile nd ne (h x hx) hy
  obtain ⟨o', e'⟩ := two_behind rs nd e h
  have pm := behindM_perm rs h
  rw [cnt_two ne rs (pm.nodup_iff.mpr nd) e' fun b hb => pm.mem_iff.mpr (h b hb)]
  have some1 : two x y rs ≠ [] := fun z => by
    have q : x ∈ two x y rs := two_mem.mpr ⟨hx, .inl rfl⟩
    rw [z] at q
    cases q
  unfold cyc
  rw [lastOf_get _ t some1]
theorem prs_at {ys : List Str} : ∀ {n : Nat} {q : Str × Str}, q ∈ prs ys n → ∃ i j : Nat, i < j ∧ ys[i]? = some q.1 ∧ ys[j]? = some q.2
  | 0, q, h => by cases h
  | n + 1, q, h => by
    cases e : ys[n]? with
    | none =>
      have e2 : prs ys (n + 1) = prs ys n ++ (match ys[n]? with | some a => (ys.drop (n + 1)).map fun b => (a, b) | none => []) := rfl
      rw [e2, e, List.append_nil] at h
      exact prs_at h
    | some a =>
      rw [prs_succ e] at h
      rcases List.mem_append.mp h with h | h
      · exact prs_at h
      · obtain ⟨b, hb, rfl⟩ := List.mem_map.mp h
        obtain ⟨k, hk⟩ := List.getElem?_of_mem hb
        rw [List.getElem?_drop] at hk
        exact ⟨n, n + 1 + k, by omega, e, hk⟩
theorem prs_pair {ys : List Str} (nd : ys.Nodup) (so : sortedS ys = true) {n : Nat} {q : Str × Str} (h : q ∈ prs ys n) : asPair (q.1, q.2) = q ∧ q.1 ≠ q.2 ∧ q.1 ∈ ys ∧ q.2 ∈ ys := by
  obtain ⟨i, j, lt, e1, e2⟩ := prs_at h
  obtain ⟨l1, f1⟩ := List.getElem?_eq_some_iff.mp e1
  obtain ⟨l2, f2⟩ := List.getElem?_eq_some_iff.mp e2
  have ne : q.1 ≠ q.2 := fun z => by
    rw [← z] at e2
    have := nd_ix nd e1 e2
    omega
  have pw := List.pairwise_iff_getElem.mp (sorted_pw so) i j l1 l2 lt
  rw [f1, f2] at pw
  refine ⟨?_, ne, List.mem_of_getElem? e1, List.mem_of_getElem? e2⟩
  unfold asPair
  by_cases c : ltS q.1 q.2
  · rw [if_pos c]
  · exact absurd (ltS_tri c pw) ne
/-- days that change around alike -/
theorem day_cnt {ns rs rs' ys : List Str} (nd : ns.Nodup) (h : ∀ b ∈ rs, b ∈ ns) (h' : ∀ b ∈ rs', b ∈ ns) (all : ∀ b ∈ ns, b ∈ rs) (all' : ∀ b ∈ ns, b ∈ rs') (c : ∀ x y, cyc (two x y rs') = cyc (two x y rs)) (py : ys.Perm ns) (so : sortedS ys = true) :
    ∀ q ∈ prs ys ys.length, cnt (rowsM (behindM ns rs') rs') q = cnt (rowsM (behindM ns rs) rs) q := by
  intro q hq
  obtain ⟨e, ne, m1, m2⟩ := prs_pair (py.nodup_iff.mpr nd) so hq
  have n1 := py.mem_iff.mp m1
  have n2 := py.mem_iff.mp m2
  rw [← e, day_cyc nd h' (all' _ n1) n2 ne, day_cyc nd h (all _ n1) n2 ne, c]
theorem day_sum {ns rs ys : List Str} (nd : ns.Nodup) (h : ∀ b ∈ rs, b ∈ ns) (py : ys.Perm ns) (so : sortedS ys = true) : (liftedM ns rs).sum = ((prs ys ys.length).map fun q => cnt (rowsM ns rs) q).sum := by
  rw [cnt_sum (prs_nodup (py.nodup_iff.mpr nd) ys.length) (rowsM ns rs) fun r hr => ?_, rows_count rs h]
  obtain ⟨z1, z2, z3⟩ := rows_in rs h r hr
  exact pair_in py so z1 z2 z3
theorem turn_cyc (rs : List Str) (k : Nat) (x y : Str) : cyc (two x y (rs.drop k ++ rs.take k)) = cyc (two x y rs) := by
  rw [two_append, cyc_turn, ← two_append, List.take_append_drop]
theorem back_cyc (rs : List Str) (x y : Str) : cyc (two x y rs.reverse) = cyc (two x y rs) := by
  have e : two x y rs.reverse = (two x y rs).reverse := List.filter_reverse ..
  rw [e, cyc_back]
/-! ### days done again -/
theorem day_again {bs rs : List Str} (nd : bs.Nodup) (h : ∀ b ∈ rs, b ∈ bs) : behindM (behindM bs rs) rs = behindM bs rs := by
  have pm := behindM_perm rs h
  rw [behind_is (pm.nodup_iff.mpr nd) rs fun b hb => pm.mem_iff.mpr (h b hb)]
  rw [behind_is nd rs h, List.filter_append, List.filter_filter]
  have e1 : (nub rs.reverse).filter (fun z => decide (z ∉ rs)) = [] := by
    rw [List.filter_eq_nil_iff]
    intro z hz
    have := List.mem_reverse.mp ((nub_mem _ _).mp hz)
    simpa using this
  rw [e1, List.nil_append]
  congr 1
  apply List.filter_congr
  intro z _
  rw [Bool.and_self]
theorem lifted_low (rest : List Str) : ∀ (rs : List Str) {l : List Str}, (∀ b ∈ rs, b ∈ l) → liftedM (l ++ rest) rs = liftedM l rs
  | [], l, _ => rfl
  | b :: r, l, h => by
    have hb := h b List.mem_cons_self
    have p := lay_perm hb
    show (l ++ rest).idxOf b :: liftedM (lay (l ++ rest) b) r = l.idxOf b :: liftedM (lay l b) r
    have e1 : (l ++ rest).idxOf b = l.idxOf b := by rw [List.idxOf_append, if_pos hb]
    have e2 : lay (l ++ rest) b = lay l b ++ rest := by
      unfold lay
      rw [e1, List.eraseIdx_append_of_lt_length (idx_lt hb)]
      rfl
    rw [e1, e2, lifted_low rest r fun c hc => p.mem_iff.mpr (h c (List.mem_cons_of_mem _ hc))]
theorem day_each {bs ns rs : List Str} (nd : bs.Nodup) (nn : ns.Nodup) (h : ∀ b ∈ rs, b ∈ bs) (h2 : ∀ b ∈ rs, b ∈ ns) (all : ∀ b ∈ ns, b ∈ rs) : liftedM (behindM bs rs) rs = liftedM (behindM ns rs) rs := by
  rw [behind_is nd rs h, behind_is nn rs h2]
  have e : (ns.filter fun z => decide (z ∉ rs)) = [] := by
    rw [List.filter_eq_nil_iff]
    intro z hz
    simpa using all z hz
  rw [e, List.append_nil]
  exact lifted_low _ rs fun b hb => (nub_mem _ _).mpr (List.mem_reverse.mpr hb)
end Lt

set_option Elab.async false
set_option linter.all false
set_option maxRecDepth 100000
set_option maxHeartbeats 4000000
/-! tuple(x for x, y in t), t a tuple of pairs: over the library's generator expressions of two names. -/
namespace Lt
open PySem PySem.Spec PyProof.Rows L2
section
variable {prog : Program} {w : World} {A : Around}
/-- a walk of one-value steps whose values are tuples that stand all the while -/
theorem walk_tups {I : Addr} {fp wr : List Addr} {n : Nat} {Pv : Nat → Value → Prop} {St : Nat → Heap → Prop} (W : Walks prog w A I fp wr n Pv St) (Ts : Nat → Addr) (us : Nat → Array Value)
    (is : ∀ i v, i < n → Pv i v → v = .ref (Ts i)) (off : ∀ i, i < n → Ts i ∉ wr)
    (free : ∀ (e : Expr) i v (s : Shared) (Q : Unit → Shared → Prop) E, St i s.heap → Q () s → wpAny (model prog w) A (letOwnedTupleGo e (.ref I) v) Q E s) :
    WalksU prog w A I (fp ++ (List.range n).map Ts) wr n (fun j a => j < n ∧ a = us j) (fun j h => St j h ∧ ∀ k, k < n → h.IsTuple (Ts k) (us k)) (fun j T h => (j < n ∧ T = Ts j) ∧ St (j + 1) h ∧ ∀ k, k < n → h.IsTuple (Ts k) (us k)) where
  sub := fun b hb => List.mem_append_left _ (W.sub b hb)
  frame := fun i h h' st k => ⟨W.frame i h h' st.1 fun b hb o e => k b (List.mem_append_left _ hb) o e,
    fun j hj => (st.2 j hj).at fun o e => k _ (List.mem_append_right _ (List.mem_map.mpr ⟨j, List.mem_range.mpr hj, rfl⟩)) o e⟩
  item := fun i s Q E hi st q => W.item i s Q E hi st.1 fun v h' tk pv st' k => by
    have tups : ∀ j, j < n → h'.IsTuple (Ts j) (us j) := fun j hj => (st.2 j hj).at fun o e => k _ o (off j hj) e
    rw [is i v hi pv]
    exact q (Ts i) (us i) h' tk ⟨hi, rfl⟩ (tups i hi) ⟨⟨hi, rfl⟩, st', tups⟩ k
  go := fun es k pos i T s Q E mid q => free _ (i + 1) _ s Q E mid.2.1 (q s.heap mid.2 fun _ _ _ e => e)
  apart := fun i T h mid => by
    rw [mid.1.2]
    exact off i mid.1.1
  done := fun s Q E st q => W.done s Q E st.1 q
  self := fun i s Q E st q => W.self i s Q E st.1 q
end
section
variable {X : Cx} {pins : List (Addr × Obj)} {σ : L2.St} {H : Hp} {s : Shared}
/-- the code object of a generator expression in a def whose table is at P, and where its builtins stand -/
theorem gen_code {c P : Addr} {ps : Array Value} {gpos : Pos} {qn : Str} {scope : Scope} {o : Obj} {E : Value → Shared → Prop} {B : Value → Addr → Shared → Prop} (inv : Inv X pins σ H s) (TB : GxR.TabB X.base X.mg c P) (hc : X.env.code = .ref c)
    (hP : H P = some (.tbl ps)) (ht : TriplesOk ps.toList)
    (go : ∀ (code : Value) (h3 : Heap) (tk : Nat) (more : Array Value), Heap.ExtBut P (s.heap.push o) h3 → s.heap.objs.size + 1 ≤ h3.objs.size → h3.get? P = some { cls := .none, data := .fields (ps ++ more) } → TriplesOk (ps ++ more).toList →
      B code builtinsNs { s with heap := h3, toks := tk }) :
    wpAny (model X.prog X.w) X.A (genexprCode X.env gpos qn scope) (fun code s3 => wpAny (model X.prog X.w) X.A (builtinsFor X.env.globals X.env.builtins) (B code) E s3) E { s with heap := s.heap.push o } := by
  have at0 : s.heap.get? P = some (PySem.W.tabObj ps) := inv.hok P _ hP
  have at1 : (s.heap.push o).get? P = some (PySem.W.tabObj ps) := Heap.get?_push_of_some _ at0
  have head : PySem.W.CodeHd (s.heap.push o) c P := TB.code.keeps fun b u e => Heap.get?_push_of_some _ (inv.bk b u e)
  have big : (s.heap.push o).objs.size = s.heap.objs.size + 1 := Heap.size_push ..
  have bis : ∀ (code : Value) (h3 : Heap) (tk : Nat), Heap.ExtBut P (s.heap.push o) h3 → B code builtinsNs { s with heap := h3, toks := tk } →
      wpAny (model X.prog X.w) X.A (builtinsFor X.env.globals X.env.builtins) (B code) E { s with heap := h3, toks := tk } := by
    intro code h3 tk ext b
    obtain ⟨bm, ob, b1, b2, _, b4, b5, b6, b7, b8⟩ := TB.bm
    refine wpAny_builtinsFor (m := X.mg) ?_ b1 b2 (ext _ _ b4 (Heap.get?_push_of_some _ (inv.bk _ _ b5))) b6 b7 b8 b
    rw [inv.ok.glob]
    exact ((inv.mod.glob.keeps inv.bk).push o).extBut ext TB.gP
  cases found : codeAmong gpos ps.toList with
  | some cv => exact wpAny_genexprCode_hit hc (head.code at1 ht) found (bis cv _ s.toks (.refl _ _) (go cv _ s.toks #[] (.refl _ _) (Nat.le_of_eq big.symm) (by rw [Array.append_empty]; exact at1) (by rw [Array.append_empty]; exact ht)))
  | none =>
    refine wpAny_genexprCodeX hc (head.code at1 ht) (head.tab at1) found fun c' h3 tk ext ge lt isc _ tab _ => ?_
    obtain ⟨_, _, _, _, _, _, _, _, _, _, _, _, _, _, _, _, _, _, _, tri, _⟩ := isc
    exact bis _ h3 tk ext (go _ h3 tk _ ext (by rw [← big]; exact Nat.le_trans ge (Nat.le_of_lt lt)) tab.2 tri)
/-- its own scope: two names, the walked thing -/
def GenTwo (scope : Scope) (x y : Str) : Prop := scope.kind = .function ∧ scope.isCoroutine = false ∧ (∀ z ∈ scope.names, z.2 = .local) ∧ scope.names.lookup (".0" : Str) = some NameKind.local ∧ scope.names.lookup x = some .local ∧ scope.names.lookup y = some .local ∧ x ≠ y
theorem vals_by : ∀ (xs : List V) (us : List Value), xs.length = us.length → (∀ (i : Nat) x u, xs[i]? = some x → us[i]? = some u → RelV x u) → Vals xs us
  | [], [], _, _ => .nil
  | [], _ :: _, l, _ => by cases l
  | _ :: _, [], l, _ => by cases l
  | x :: xs, u :: us, l, h => .cons (h 0 x u rfl rfl) (vals_by xs us (by simpa using l) fun i x u hx hu => h (i + 1) x u (by simpa using hx) (by simpa using hu))
def tTupG (K : PySem.W.Frag) (P : Addr) (te : TE) : TE := fun σ H Q => te σ H fun v H1 => ∃ (a : Addr) (ts : List Addr) (ps : List (V × V)), v = .ref a ∧ SqT K H1 a (ts.map V.ref) ∧ ts.length = ps.length ∧
  (∀ (i : Nat) (t : Addr) (p : V × V), ts[i]? = some t → ps[i]? = some p → SqT K H1 t [p.1, p.2]) ∧ GxR.TabG H1 P ∧ ∀ H2 q u, GxR.Tabbed P H1 H2 → H2 q = none → IsFz u (ps.map (·.1)) → Q (.ref q) (upd H2 q u)
theorem pe_tupG {c P : Addr} {x y : Str} {iter : Expr} {px py pt pe p pos gpos : Pos} {kt : Nat} {scope : Scope} {te : TE} {k : Nat} (hr : Room k X.A) (hg : Gl X "tuple") (hm : X.mg "tuple" = none) (TB : GxR.TabB X.base X.mg c P) (hc : X.env.code = .ref c) (S : GenTwo scope x y) (hi : PE X iter te)
    (hs : ∀ v, genFold iter X.env v = pure v := by intro _; rfl) (hd : (x == ("__debug__" : Str)) = false := by decide)
    (he : starEach [.GeneratorExp (.Name x pe) [⟨.Tuple [.Name x px, .Name y py] kt pt, iter, [], 0⟩] scope gpos] X.env = (false, eval (.GeneratorExp (.Name x pe) [⟨.Tuple [.Name x px, .Name y py] kt pt, iter, [], 0⟩] scope gpos) X.env) :: starEach [] X.env := by rfl) :
    PE X (.Call (.Name "tuple" p) [.GeneratorExp (.Name x pe) [⟨.Tuple [.Name x px, .Name y py] kt pt, iter, [], 0⟩] scope gpos] [] pos) (tTupG X.K P te) := by
  obtain ⟨kind, co, loc, dot, one, two, ne⟩ := S
  have hv : bootBuiltins ("tuple" : Str) = some (.type "tuple") := by decide +kernel
  refine ⟨fun pins s σ H Q inv h => wpAny_Call_Name_kw (ld_blt inv hg hm hv (PyProof.Rows.callWith_type1 ?_ he (by rfl)))⟩
  rw [he]
  show wpAny _ _ (spliced ((false, _) :: backTo pos (starEach [] X.env))) _ _ s
  refine Calls.spliced_cons ?_
  refine wpAny_GeneratorExp_walksQT hr.hd co (closure_ok fun z hz e => by rw [loc z hz] at e; cases e) (fun z hz e => by rw [loc z hz] at e; cases e) dot one two ne kind (by have := hr.dp; omega) ?_ hs
  refine thn (hi.run pins s σ H _ inv h) fun xv s1 ⟨v, H1, inv1, rel, q1⟩ => ?_
  obtain ⟨a, ts, ps, rfl, sq, len, each, ⟨tb, hP, ht⟩, q⟩ := q1
  cases rel
  obtain ⟨its, vals, tupA, fit⟩ := inv1.tuple sq
  have nits : its.length = ts.length := by rw [← vals.length, List.length_map]
  have pairs : ∀ i, ∃ u : Array Value, i < ts.length → ∃ (t : Addr) (p : V × V) (va vb : Value), ts[i]? = some t ∧ ps[i]? = some p ∧ u = #[va, vb] ∧ RelV p.1 va ∧ s1.heap.IsTuple t u := by
    intro i
    by_cases hi : i < ts.length
    · have e1 := List.getElem?_eq_getElem hi
      have e2 : ps[i]? = some (ps[i]'(by omega)) := List.getElem?_eq_getElem _
      obtain ⟨us, vs2, tp, _⟩ := inv1.tuple (each i _ _ e1 e2)
      obtain ⟨va, vb, rfl, r1, r2⟩ := vs2.two
      exact ⟨#[va, vb], fun _ => ⟨_, _, va, vb, e1, e2, rfl, r1, tp⟩⟩
    · exact ⟨#[], fun z => absurd z hi⟩
  obtain ⟨us, hus⟩ := Classical.axiomOfChoice pairs
  have ats : ∀ i, i < ts.length → its.toArray[i]? = some (.ref ((ts[i]?).getD 0)) ∧ s1.heap.IsTuple ((ts[i]?).getD 0) (us i) := by
    intro i hi
    obtain ⟨t, pp, va, vb, e1, e2, _, _, tp⟩ := hus i hi
    obtain ⟨u2, g1, g2⟩ := vals.get (i := i) (x := .ref t) (by rw [List.getElem?_map, e1]; rfl)
    obtain rfl : u2 = .ref t := g2
    rw [e1]
    exact ⟨by simpa using g1, tp⟩
  have sz : its.toArray.size = ts.length := by rw [List.size_toArray, nits]
  have lt1 : ∀ {b : Addr} {u : Array Value}, s1.heap.IsTuple b u → b < s1.heap.objs.size := fun t => by
    obtain ⟨o, e, _⟩ := t
    exact Heap.lt_size e
  have at0 : s1.heap.get? P = some { cls := .none, data := .fields tb } := inv1.hok P _ hP
  have ltP : P < s1.heap.objs.size := Heap.lt_size at0
  have neP : ∀ {b : Addr} {u : Array Value}, s1.heap.IsTuple b u → b ≠ P := fun t e => by
    obtain ⟨o, e1, e2, _⟩ := t
    rw [e, at0] at e1
    cases e1
    cases e2
  refine wpAny_pyIter_tuple tupA ⟨inv1.nolimit.push _, gen_code inv1 TB hc hP ht fun code h3 tk more ext big at3 tri => ?_⟩
  have keep : ∀ b u, b ≠ P → s1.heap.get? b = some u → h3.get? b = some u := fun b u nb e => ext b u nb (Heap.get?_push_of_some _ e)
  have it3 : h3.IsTupleIter s1.heap.objs.size a 0 := ⟨_, ext _ _ (Nat.ne_of_gt ltP) (Heap.get?_push_size _ rfl), rfl, rfl⟩
  have nst : cStatics ≠ P ∧ cStatics < s1.heap.objs.size := by
    obtain ⟨_, ns, _⟩ := inv1.nolimit
    refine ⟨fun e => ?_, ns.lt⟩
    obtain ⟨o', es, ep, ho, hd', _⟩ := ns
    rw [e, at0] at ho
    cases ho
    cases hd'
  have isT : s1.heap.IsTuple a its.toArray := tupA
  have tup3 : h3.IsTuple a its.toArray := isT.at fun o e => keep _ _ (neP isT) e
  have ats3 : ∀ i, i < ts.length → h3.IsTuple ((ts[i]?).getD 0) (us i) := fun i hi => (ats i hi).2.at fun o e => keep _ _ (neP (ats i hi).2) e
  have up : s1.heap.objs.size < h3.objs.size := big
  have W0 : ∀ A' : Around, A'.handled = none → WalksU X.prog X.w A' s1.heap.objs.size _ [s1.heap.objs.size] ts.length _ _ _ :=
    fun A' hA => walk_tups (sz ▸ Walks.tuple hA s1.heap.objs.size a (Nat.ne_of_lt (lt1 tupA)) its.toArray) (fun i => (ts[i]?).getD 0) us
      (fun i v hi e => Option.some.inj (e.symm.trans (ats i hi).1)) (fun i hi z => Nat.ne_of_lt (lt1 (ats i hi).2) (List.mem_singleton.mp z))
      (fun e i v s' Q' E' st q' => by
        obtain ⟨o, ho, hc', hd'⟩ := st.1
        exact letGo_of_cls ho hc' hd' (by decide) q')
  refine ⟨s1.heap.objs.size, _, [s1.heap.objs.size], ts.length, _, _, _, fun _ => true, fun i z => ∃ va vb, us i = #[va, vb] ∧ z = va, rfl, W0, ?two, ⟨⟨it3, tup3⟩, ats3⟩, ?fp, (inv1.nolimit.push _).extBut ext nst.1, fun z => Nat.ne_of_lt nst.2 (List.mem_singleton.mp z), ?quiet, ?rest⟩
  case two =>
    rintro i vs ⟨hi, rfl⟩
    obtain ⟨_, _, va, vb, _, _, e, _⟩ := hus i hi
    exact ⟨va, vb, e⟩
  case fp =>
    intro b hb
    rcases List.mem_append.mp hb with z | z
    · rcases List.mem_cons.mp z with z | z
      · rw [z]
        exact up
      · rw [List.mem_singleton.mp z]
        exact Nat.lt_trans (lt1 tupA) up
    · obtain ⟨i, hi, rfl⟩ := List.mem_map.mp z
      exact Nat.lt_trans (lt1 (ats i (List.mem_range.mp hi)).2) up
  case quiet =>
    intro href _
    refine ⟨fun A' E' i va vb s2 m2 hA hp hn ha hb hk => ?_, fun A' E' i va vb s2 m2 hA hp hz hn ha hb hk => ?_⟩
    · simp only [List.forIn_nil]
      exact wpAny_pure ⟨rfl, GxR.keeps_refl _⟩
    · exact wpAny_Name (wpAny_loadName_local kind (show scope.names.lookup x = some .local from one) hn ha ⟨⟨va, vb, hp.2.symm, rfl⟩, GxR.keeps_refl _⟩) hd
  case rest =>
    intro g h5 tk5 gs bare hag hsz keep5 W gat
    rw [GxR.passing_true, List.length_range] at W
    refine Calls.spliced_nil (call_tuple_gen W.in4_3 (fun i s9 st9 => st9.1.typeIs) gat (fun b hb => ?_) List.mem_cons_self (fun s' acc moved items => ?_) (by rw [← List.length_map (f := V.ref)]; exact fit))
    · show b < h5.objs.size
      have e5 : h5.objs.size = g + 1 := hsz
      have g3 : h3.objs.size < g := hag
      rcases List.mem_cons.mp hb with z | z
      · rw [z, e5]
        exact Nat.lt_succ_self g
      · rcases List.mem_cons.mp z with z | z
        · rw [z, e5]
          exact Nat.lt_succ_of_lt g3
        · rw [e5]
          exact Nat.lt_succ_of_lt (Nat.lt_trans (List.mem_range.mp z) g3)
    · have old : ∀ b u, s1.heap.get? b = some u → b ∉ [h3.objs.size, s1.heap.objs.size] := fun b u e hb => by
        have l := Heap.lt_size e
        rcases List.mem_cons.mp hb with z | z
        · exact Nat.lt_asymm up (by rw [← z]; exact l)
        · rw [List.mem_singleton.mp z] at l
          exact Nat.lt_irrefl _ l
      have inv2 := GxR.inv_tab (more := more) (h' := s'.heap) (g' := s'.gens) (d' := s'.drawn) (t' := s'.toks) inv1 hP (fun b u nb e => moved.heap b u (old b u e) (keep5 b u (keep b u nb e))) (moved.heap P _ (old P _ at0) (keep5 P _ at3)) (AllBare.movedS (inv1.bare.push bare) moved)
      rw [GxR.sh_eta s1 s' moved.os] at inv2
      have rels : Vals (ps.map (·.1)) acc.toList := by
        refine vals_by _ _ (by rw [List.length_map, ← len]; exact items.1.symm.trans (Array.length_toList (xs := acc)).symm) fun i v u hv hu => ?_
        obtain ⟨j, hj, va, vb, e1, rfl⟩ := items.2 i u (by simpa using hu)
        rw [List.getElem?_map] at hv
        cases e2 : ps[i]? with
        | none =>
          rw [e2] at hv
          cases hv
        | some pp =>
          rw [e2] at hv
          cases hv
          have li : i < ts.length := by
            rw [len]
            exact (List.getElem?_eq_some_iff.mp e2).1
          obtain rfl : i = j := by
            rw [List.getElem?_range li] at hj
            exact Option.some.inj hj
          obtain ⟨_, p2, va2, vb2, _, f2, f3, f4, _⟩ := hus i li
          rw [e2] at f2
          cases f2
          rw [f3] at e1
          have e3 : va2 = u := by
            have z := congrArg Array.toList e1
            simpa using (List.cons.inj z).1
          rw [← e3]
          exact f4
      have e : acc = acc.toList.toArray := by simp
      rw [e]
      exact laid_fz (s := s') inv2 rels (by rw [List.length_map, ← len, ← List.length_map (f := V.ref)]; exact fit) fun p u hp hu => q _ p u ⟨⟨_, upd_same, tri⟩, fun b nb => upd_ne nb⟩ hp hu
end
end Lt

set_option Elab.async false
set_option linter.all false
set_option maxRecDepth 100000
set_option maxHeartbeats 4000000
/-! dict(t), t a tuple of pairs: over the library's dict of pairs. -/
namespace Lt
open PySem PySem.Spec PyProof.Rows L2
section
variable {X : Cx}
def rDictT (K : PySem.W.Frag) : List V → Hp → VK → Prop := fun xs H Q => ∃ (a : Addr) (ps : List Addr) (kvs : List (Key × V)), xs = [.ref a] ∧ TpO H a (ps.map V.ref) ∧ Paired (fun p kv => SqT K H p [kV kv.1, kv.2]) ps kvs ∧
  ∀ p, H p = none → Q (.ref p) (upd H p (.dK (mergeK [] kvs)))
theorem call_dictT (calm : X.calm = true) : CallR X (.type "dict") (rDictT X.K) := by
  rintro pins s σ H _ us Q inv rel ⟨a, ps, kvs, rfl, tp, pairs, q⟩
  rw [Vals.ref1 rel]
  obtain ⟨_, hu, o, rfl, cls, nod⟩ := tp
  obtain ⟨at1, fit, vs, vals, o', at2, cls2, n, dat⟩ := inv.hok a _ hu
  have ev := refs_at vals
  subst ev
  rw [at1] at at2
  cases at2
  obtain ⟨prs, kv, len, each⟩ := L2.pairs_of inv pairs
  have pick : ∀ j : Nat, ∃ u : Value, ∀ z : Key × Value, prs[j]? = some z → ∃ b, ps[j]? = some b ∧ IsTup s.heap b #[u, z.2] ∧ keyIs z.1 u = true := by
    intro j
    cases e : prs[j]? with
    | none => exact ⟨.none, fun z hz => nomatch hz⟩
    | some z =>
      obtain ⟨b, u, e1, e2, e3⟩ := each j z e
      exact ⟨u, fun z' hz => by cases hz; exact ⟨b, e1, e2, e3⟩⟩
  obtain ⟨f, hf⟩ := Classical.axiomOfChoice pick
  have at3 : ∀ (i : Nat) (k v : Value), (prs.mapIdx fun j (z : Key × Value) => (f j, z.2))[i]? = some (k, v) → ∃ z, prs[i]? = some z ∧ k = f i ∧ v = z.2 := fun i k v e => by
    rw [List.getElem?_mapIdx] at e
    cases e2 : prs[i]? with
    | none =>
      rw [e2] at e
      cases e
    | some z =>
      rw [e2] at e
      cases e
      exact ⟨z, rfl, rfl, rfl⟩
  have lps : ps.length ≤ sizeLine := by
    rw [List.length_map] at fit
    exact fit
  have lprs : (prs.mapIdx fun j (z : Key × Value) => (f j, z.2)).length = prs.length := List.length_mapIdx
  refine PySem.call_dict_pairs (knd := mixKind X.prog X.w) (kvs := prs) (PairArg.tuple a (ps.map Value.ref).toArray (fun j => (ps[j]?).getD 0) (prs.mapIdx fun j (z : Key × Value) => (f j, z.2))) (inv.ok.hd calm) ⟨⟨o, n, at1, cls, nod, dat⟩, ?_, fun j k v e => ?_⟩ ⟨lprs.symm, fun i k v e => ?_⟩ (by rw [lprs, len]; exact lps) fun h' tk dd keeps => ?_
  · rw [lprs, len, List.size_toArray, List.length_map]
  · obtain ⟨z, e1, rfl, rfl⟩ := at3 j k v e
    obtain ⟨b, g1, g2, g3⟩ := hf j z e1
    have g4 : (ps[j]?).getD 0 = b := by rw [g1]; rfl
    show _ = some (Value.ref ((ps[j]?).getD 0)) ∧ PairAt s.heap ((ps[j]?).getD 0) _ _
    rw [g4]
    exact ⟨by simp [g1], .inl g2⟩
  · obtain ⟨z, e1, rfl, rfl⟩ := at3 i k v e
    obtain ⟨b, g1, g2, g3⟩ := hf i z e1
    exact ⟨z.1, e1, g3⟩
  · have sys : (s.heap.objs.size == sysModules) = false := beq_eq_false_iff_ne.mpr (Nat.ne_of_gt inv.big)
    have small : (mergeK [] kvs).length ≤ sizeLine := by
      have z := length_mergeK kvs []
      rw [List.length_nil, Nat.zero_add, kv.length, len] at z
      exact Nat.le_trans z lps
    exact ⟨.ref s.heap.objs.size, upd H s.heap.objs.size (.dK (mergeK [] kvs)), inv.laid (t' := tk) (fun b u e => keeps b u (fun z => nomatch z) e) (Nat.le_refl _) (show ObjOk X.prog X.w _ _ _ (.dK (mergeK [] kvs)) from ⟨small, sys, merged [] prs, KV.merge kv .nil, dd⟩), rfl, q _ (inv.hok.fresh (Nat.le_refl _))⟩
end
end Lt

set_option Elab.async false
set_option linter.all false
set_option maxRecDepth 100000
set_option maxHeartbeats 4000000
/-! all(e for x in t), t a tuple, e any expression of the layer, read in the generator's own frame. -/
namespace Lt
open PySem PySem.Spec PyProof.Rows L2
/-! ### the frame -/
theorem clo_nil (cells : List (Str × Addr)) : ∀ (names : List (Str × NameKind)) (acc : List (Str × Addr)), (∀ y ∈ names, y.2 ≠ .free) → cloFrom cells names acc = acc
  | [], _, _ => rfl
  | (n, k) :: r, acc, h => by
    have hk : (k == NameKind.free) = false := beq_eq_false_iff_ne.mpr (h (n, k) (List.mem_cons_self ..))
    show (if k == .free then _ else _) = acc
    rw [hk, if_neg Bool.false_ne_true]
    exact clo_nil cells r acc fun y hy => h y (List.mem_cons_of_mem _ hy)
structure GenOne (scope : Scope) (x : Str) : Prop where
  kind : scope.kind = .function
  co : scope.isCoroutine = false
  own : ∀ y ∈ scope.names, y.2 ≠ .cell ∧ y.2 ≠ .free
  dot : scope.names.lookup (".0" : Str) = some NameKind.local
  loc : scope.names.lookup x = some .local
  ne : x ≠ ".0"
abbrev gExp (elt iter : Expr) (x : Str) (px : Pos) (scope : Scope) (pos : Pos) : Expr := .GeneratorExp elt [⟨.Name x px, iter, [], 0⟩] scope pos
theorem ov_frames {A : Around} {e : Expr} {it : Value} {cenv : Env} {gs : List Comprehension} {sc : Scope} {p : Pos} {l : List Env} (h : A.frames = some l) : (A.over (.compLoop (.GeneratorExp e gs sc p) 0 it .none cenv) []).frames = some (cenv :: l) := by
  have e1 : (Code.compLoop (.GeneratorExp e gs sc p) 0 it .none cenv).envs = [cenv] := rfl
  simp only [Around.over, e1, List.map_nil, h]
  rfl
theorem ov_units {A : Around} {e : Expr} {it : Value} {cenv : Env} {gs : List Comprehension} {sc : Scope} {p : Pos} : (A.over (.compLoop (.GeneratorExp e gs sc p) 0 it .none cenv) []).units = A.units + 3 := by
  have e1 : (Code.compLoop (.GeneratorExp e gs sc p) 0 it .none cenv).cUnits = 3 := rfl
  simp only [Around.over, e1, List.map_nil]
  rfl
theorem room_gen {k : Nat} {A : Around} {e : Expr} {it : Value} {cenv : Env} {gs : List Comprehension} {sc : Scope} {p : Pos} (r : Room (k + 1) A) : Room k (A.in1.in1.over (.compLoop (.GeneratorExp e gs sc p) 0 it .none cenv) []) := by
  refine ⟨r.hd, ?_, ?_⟩
  · have := r.dp
    show A.depth + 1 + 3 * k + 5 < _
    omega
  · have := r.un
    rw [ov_units]
    show A.units + 1 + 1 + 3 + 16 * k + 200 < _
    omega
def gx (X : Cx) (A : Around) (x : Str) (scope : Scope) (C : Addr) (code : Value) (s4 : Shared) (H4 : Hp) (I : Addr) : Cx :=
  { prog := X.prog, w := X.w, K := X.K, mg := X.mg, base := X.base, A := A, N := [".0", x], s_0 := s4, H_0 := H4, env := genEnv scope [] C code builtinsNs X.env, outer := X.stack, stack := genEnv scope [] C code builtinsNs X.env :: X.stack,
    ex := [I], fn := fun _ => true, calm := true, pn := [], xe := fun _ _ => False }
theorem inv_gens {X : Cx} {pins : List (Addr × Obj)} {σ : L2.St} {H : Hp} {s : Shared} {g : Array GenState} (I : Inv X pins σ H s) (h : AllBare g) : Inv X pins σ H { s with gens := g } :=
  ⟨I.ok, I.os, h, I.base, I.loc, I.cell, I.free, I.freeC, I.pin, I.hok, I.len⟩
/-- ahead of the item i -/
def GSt (X' : Cx) (pin : Addr × Obj) (I t : Addr) (W : Nat → Hp → Prop) (i : Nat) (s : Shared) : Prop :=
  ∃ (H : Hp) (y : Option V), Inv X' [pin] [some (.ref I), y] H s ∧ W i H ∧ s.heap.IsTupleIter I t i
theorem GSt.gens {X' : Cx} {pin : Addr × Obj} {I t : Addr} {W : Nat → Hp → Prop} {i : Nat} {s : Shared} {g : Array GenState} (h : GSt X' pin I t W i s) (hg : AllBare g) : GSt X' pin I t W i { s with gens := g } := by
  obtain ⟨H, y, inv, w, it⟩ := h
  exact ⟨H, y, inv_gens inv hg, w, it⟩
def gR (X' : Cx) (pin : Addr × Obj) (I : Addr) (n : Nat) (W : Nat → Hp → Prop) : GenEnd := fun m _ r s1 => r = .ok .next ∧ m = 0 ∧ ∃ (H : Hp) (y : Option V), Inv X' [pin] [some (.ref I), y] H s1 ∧ W n H
def gY (X' : Cx) (pin : Addr × Obj) (I t : Addr) (n : Nat) (tr : Nat → Bool) (W : Nat → Hp → Prop) : Protocol := fun m _ v s kap =>
  v = .bool (tr (n - 1 - m)) ∧ GSt X' pin I t W (n - m) s ∧ ∀ g, AllBare g → kap (.send .none) { s with gens := g }
section
variable {X : Cx} {A : Around} {elt iter : Expr} {x : Str} {px pos : Pos} {scope : Scope} {C I t : Addr} {code : Value} {s4 : Shared} {H4 : Hp} {pin : Addr × Obj} {te : TE} {xs : List V} {tr : Nat → Bool} {W : Nat → Hp → Prop}
theorem gen_loop (S : GenOne scope x) (hA : A.handled = none) (nI : I < s4.heap.objs.size) (hC : C = s4.heap.objs.size) (nf : I ∉ frs X.stack) (hne : t ≠ I) (hp : pin.1 ≠ I) (hH : ∀ i H, W i H → H I = none)
    (he : PE (gx X (A.over (.compLoop (gExp elt iter x px scope pos) 0 (.ref I) .none (genEnv scope [] C code builtinsNs X.env)) []) x scope C code s4 H4 I) elt te)
    (hsq : ∀ i H, W i H → SqT X.K H t xs) (hst : ∀ (i : Nat) (H : Hp) (v : V), xs[i]? = some v → W i H → te [some (.ref I), some v] H fun y H' => y = .bl (tr i) ∧ W (i + 1) H') :
    ∀ (k i : Nat) (s₀ s : Shared), xs.length - i = k → i ≤ xs.length →
      GSt (gx X (A.over (.compLoop (gExp elt iter x px scope pos) 0 (.ref I) .none (genEnv scope [] C code builtinsNs X.env)) []) x scope C code s4 H4 I) pin I t W i s →
      Seg (model X.prog X.w) A (gR (gx X (A.over (.compLoop (gExp elt iter x px scope pos) 0 (.ref I) .none (genEnv scope [] C code builtinsNs X.env)) []) x scope C code s4 H4 I) pin I xs.length W)
        (gY (gx X (A.over (.compLoop (gExp elt iter x px scope pos) 0 (.ref I) .none (genEnv scope [] C code builtinsNs X.env)) []) x scope C code s4 H4 I) pin I t xs.length tr W) (xs.length - i) s₀
        (.compLoop (gExp elt iter x px scope pos) 0 (.ref I) .none (genEnv scope [] C code builtinsNs X.env)) ((model X.prog X.w).den (.compLoop (gExp elt iter x px scope pos) 0 (.ref I) .none (genEnv scope [] C code builtinsNs X.env))) [] s := by
  have hA' : (A.over (.compLoop (gExp elt iter x px scope pos) 0 (.ref I) .none (genEnv scope [] C code builtinsNs X.env)) []).handled = none := hA
  intro k
  induction k with
  | zero =>
    intro i s₀ s hk hi G
    have e : i = xs.length := by omega
    subst e
    obtain ⟨H, y, inv, w, it⟩ := G
    obtain ⟨its, vals, tup, fit⟩ := inv.tuple (show SqT _ H t xs from hsq _ H w)
    have len : its.toArray.size = xs.length := by rw [List.size_toArray, ← vals.length]
    show Seg _ A _ _ _ s₀ _ ((compTurn (gExp elt iter x px scope pos) 0 (.ref I) .none (genEnv scope [] C code builtinsNs X.env)).onRaise (leaving (genEnv scope [] C code builtinsNs X.env))) [] s
    rw [compTurn_gen, Sem.onRaise_eq_wrap]
    refine seg_bind_wrap (wpAny_standAt ?_)
    refine seg_bind_wrap ((Walks.tuple hA' I t hne its.toArray).done s _ _ (by rw [len]; exact ⟨it, tup⟩) fun h' tk hk' => ?_)
    refine seg_end (.ok .next) ⟨rfl, Nat.sub_self _, H, y, inv.turned (t' := tk) (it := I) (fun b o hb e => hk' b o (fun z => hb (List.mem_singleton.mp z)) e) (hH _ H w) ?_ (.inl (List.mem_singleton.mpr rfl)) (fun _ _ z => nomatch z) ?_, w⟩
    · show I ≠ C
      rw [hC]
      exact Nat.ne_of_lt nI
    · intro p hp'
      rw [show p = pin from List.mem_singleton.mp hp']
      exact hp
  | succ k ih =>
    intro i s₀ s hk hi G
    have lt : i < xs.length := by omega
    obtain ⟨H, y, inv, w, it⟩ := G
    obtain ⟨its, vals, tup, fit⟩ := inv.tuple (show SqT _ H t xs from hsq _ H w)
    have len : its.toArray.size = xs.length := by rw [List.size_toArray, ← vals.length]
    have nIC : I ≠ C := by
      rw [hC]
      exact Nat.ne_of_lt nI
    have nI0 := hH i H w
    show Seg _ A _ _ _ s₀ _ ((compTurn (gExp elt iter x px scope pos) 0 (.ref I) .none (genEnv scope [] C code builtinsNs X.env)).onRaise (leaving (genEnv scope [] C code builtinsNs X.env))) [] s
    rw [compTurn_gen, Sem.onRaise_eq_wrap]
    refine seg_bind_wrap (wpAny_standAt ?_)
    refine seg_bind_wrap ((Walks.tuple hA' I t hne its.toArray).item i s _ _ (by rw [len]; exact lt) ⟨it, tup⟩ fun v h1 tk1 pv st1 kp1 => ?_)
    have ev : its[i]? = some v := by simpa using pv
    obtain ⟨u, gu, ru⟩ := vals.get (i := i) (x := xs[i]) (List.getElem?_eq_getElem lt)
    rw [ev] at gu
    cases gu
    have inv1 := inv.turned (t' := tk1) (it := I) (h' := h1) (fun b o hb e => kp1 b o (fun z => hb (List.mem_singleton.mp z)) e) nI0 nIC (.inl (List.mem_singleton.mpr rfl)) (fun _ _ z => nomatch z)
      (fun p hp' => by rw [show p = pin from List.mem_singleton.mp hp']; exact hp)
    obtain ⟨io, hio, ic, id⟩ := st1.1
    have inv1p := inv1.pins_of (pins' := [(I, io), pin]) fun p hp' => by
      rcases List.mem_cons.mp hp' with e | hp'
      · rw [e]
        exact ⟨hio, nI0, nIC, nf, fun v z => by rw [id] at z; cases z⟩
      · exact inv1.pin p (List.mem_append_right _ hp')
    refine seg_bind_wrap (wpAny_of_eq (rfl : letOwnedTupleGo (.Name x px) (.ref I) v = pure ()) ?_)
    have nd : ([(".0" : Str), x] : List Str).Nodup := List.nodup_cons.mpr ⟨fun z => S.ne (List.mem_singleton.mp z).symm, List.nodup_cons.mpr ⟨fun z => (nomatch z), List.nodup_nil⟩⟩
    have pg : PG (gx X (A.over (.compLoop (gExp elt iter x px scope pos) 0 (.ref I) .none (genEnv scope [] C code builtinsNs X.env)) []) x scope C code s4 H4 I) (.Name x px) (gName 1) := pg_name (i := 1) nd rfl (.inl S.loc) (.inl rfl)
    refine seg_bind_wrap (wpAny_mono (pg.run [(I, io), pin] _ _ H xs[i] v (fun σ' H' => σ' = [some (.ref I), some xs[i]] ∧ H' = H) inv1p ru ⟨rfl, rfl⟩) (fun _ s2 h2 => ?_) fun _ _ z => (z : False).elim)
    obtain ⟨σ2, H2, inv2, rfl, rfl⟩ := h2
    refine seg_bind_wrap ?_
    simp only [List.forIn_nil]
    refine wpAny_pure ?_
    simp only [if_true]
    have hy : ∀ v, yieldOut (genEnv scope [] C code builtinsNs X.env) v = yieldValue v := fun v => by
      have e : (genEnv scope [] C code builtinsNs X.env).scope.isCoroutine = false := S.co
      simp only [yieldOut, e, Bool.false_eq_true, if_false]
    simp only [hy]
    rw [Sem.bind_eq_wrap', Sem.bind_eq_wrap', Sem.wrap_wrap, Sem.wrap_wrap]
    refine seg_wrap (wpAny_mono (he.run [(I, io), pin] s2 _ H2 _ inv2 (hst i H2 xs[i] (List.getElem?_eq_getElem lt) w)) (fun u3 s3 h3 => ?_) fun _ _ z => (z : False).elim)
    obtain ⟨yv, H3, inv3, rel3, rfl, w3⟩ := h3
    obtain rfl : u3 = .bool (tr i) := rel3
    have G3 : GSt (gx X (A.over (.compLoop (gExp elt iter x px scope pos) 0 (.ref I) .none (genEnv scope [] C code builtinsNs X.env)) []) x scope C code s4 H4 I) pin I t W (i + 1) s3 :=
      ⟨H3, _, inv3.pins_of fun p hp' => inv3.pin p (List.mem_append_right _ (List.mem_cons_of_mem _ hp')), w3, io, (inv3.pin (I, io) (List.mem_append_right _ (List.mem_cons_self ..))).1, ic, id⟩
    obtain ⟨m, em⟩ : ∃ m, xs.length - i = m + 1 := ⟨k, hk⟩
    rw [em]
    refine seg_at (seg_yield rfl rfl rfl ⟨?_, ?_, fun g hg => ?_⟩)
    · rw [show xs.length - 1 - m = i by omega]
    · rw [show xs.length - m = i + 1 by omega]
      exact G3
    · have z := ih (i + 1) { s3 with gens := g } { s3 with gens := g } (by omega) lt (G3.gens hg)
      rw [show xs.length - (i + 1) = m by omega] at z
      exact seg_again rfl z
theorem gen_start (hA : A.handled = none) {s₀ s : Shared} {n : Nat} {R : GenEnd} {Y : Protocol} {its : Array Value} (hne : t ≠ I) (it : s.heap.IsTupleIter I t 0) (tup : s.heap.IsTuple t its)
    (h : Seg (model X.prog X.w) A R Y n s₀ (.compLoop (gExp elt iter x px scope pos) 0 (.ref I) .none (genEnv scope [] C code builtinsNs X.env)) ((model X.prog X.w).den (.compLoop (gExp elt iter x px scope pos) 0 (.ref I) .none (genEnv scope [] C code builtinsNs X.env))) [] s) :
    Seg (model X.prog X.w) A R Y n s₀ (.compStart (gExp elt iter x px scope pos) 0 (.ref I) .none (genEnv scope [] C code builtinsNs X.env)) ((model X.prog X.w).den (.compStart (gExp elt iter x px scope pos) 0 (.ref I) .none (genEnv scope [] C code builtinsNs X.env))) [] s := by
  have hA' : (A.over (.compStart (gExp elt iter x px scope pos) 0 (.ref I) .none (genEnv scope [] C code builtinsNs X.env)) []).handled = none := hA
  show Seg _ A _ _ _ s₀ _ ((compStart (gExp elt iter x px scope pos) 0 (.ref I) .none (genEnv scope [] C code builtinsNs X.env)).onRaise (leaving (genEnv scope [] C code builtinsNs X.env))) [] s
  unfold compStart
  rw [Sem.onRaise_eq_wrap]
  show Seg _ A _ _ _ s₀ _ ((ask >>= _).wrap _ _ _ _) [] s
  refine seg_bind_wrap (wpAny_askSetting ?_)
  split
  · exact seg_again rfl h
  · refine seg_bind_wrap (wpAny_rule ?_)
    first
    | exact seg_bind_wrap (wpAny_standAt (seg_bind_wrap ((Walks.tuple hA' I t hne its).self 0 s _ _ ⟨it, tup⟩ (seg_again rfl h))))
    | (show Seg _ A _ _ _ s₀ _ ((standAt iter.pos >>= _).wrap _ _ _ _) [] s
       exact seg_bind_wrap (wpAny_standAt (seg_bind_wrap ((Walks.tuple hA' I t hne its).self 0 s _ _ ⟨it, tup⟩ (seg_again rfl h)))))
end
/-! ### all of it -/
section
variable {prog : Program} {w : World} {A : Around}
theorem all_loop {a : Addr} {n : Nat} {J : Nat → Shared → Prop} {Je : Shared → Prop} {tr : Nat → Bool} {R : Result → Shared → Prop} (je : ∀ i s, J i s → Je s)
    (item : ∀ (i : Nat) (s : Shared) (Q : Option Value → Shared → Prop) (E : Value → Shared → Prop), i < n → J i s → (∀ s', J (i + 1) s' → Q (some (.bool (tr i))) s') → wpAny (model prog w) A.in1 (pyNext (.ref a)) Q E s)
    (done : ∀ (s : Shared) (Q : Option Value → Shared → Prop) (E : Value → Shared → Prop), J n s → (∀ s', Je s' → Q none s') → wpAny (model prog w) A.in1 (pyNext (.ref a)) Q E s) :
    ∀ (k i : Nat) (s : Shared), n - i = k → i ≤ n → J i s → (∀ s', Je s' → R (.ok (.ret (.bool (((List.range n).drop i).all tr)))) s') → codeAny (model prog w) A (.builtin "all.loop" ⟨[.ref a], []⟩) R s := by
  intro k
  induction k with
  | zero =>
    intro i s hk hi j q
    have e : i = n := by omega
    subst e
    refine codeAny_builtin F.entry_all_loop ?_
    rw [Around.under_plainId F.plain_all_loop _]
    show wpAny _ A.in1 (pyNext (.ref a) >>= _) _ _ s
    refine wpAny_bind (done s _ _ j fun s' h' => wpAny_bind (wpAny_rule (wpAny_pure ?_)))
    have z := q s' h'
    rw [List.drop_of_length_le (by simp)] at z
    exact z
  | succ k ih =>
    intro i s hk hi j q
    have lt : i < n := by omega
    have hd : (List.range n).drop i = i :: (List.range n).drop (i + 1) := by
      rw [List.drop_eq_getElem_cons (by simpa using lt)]
      simp
    refine codeAny_builtin F.entry_all_loop ?_
    rw [Around.under_plainId F.plain_all_loop _]
    show wpAny _ A.in1 (pyNext (.ref a) >>= _) _ _ s
    refine wpAny_bind (item i s _ _ lt j fun s' j' => ?_)
    refine wpAny_bind (wpAny_holding (wpAny_truthy_bool ?_))
    refine wpAny_bind (wpAny_letGo ?_)
    cases hb : tr i with
    | true =>
      simp only [if_true]
      refine wpAny_pure ⟨plainId_quiet F.plain_all_loop _, ih (i + 1) _ (by omega) lt j' fun s'' h'' => ?_⟩
      have z := q s'' h''
      rw [hd, List.all_cons, hb, Bool.true_and] at z
      exact z
    | false =>
      simp only [Bool.false_eq_true, if_false]
      refine wpAny_bind (wpAny_rule (wpAny_pure ?_))
      have z := q s' (je _ _ j')
      rw [hd, List.all_cons, hb, Bool.false_and] at z
      exact z
end
/-! ### the rule -/
theorem bare_set {g : Array GenState} {k : Nat} {y : GenState} (h : AllBare g) (hy : y.bare = true) : AllBare (g.setIfInBounds k y) := by
  intro z hz
  obtain ⟨i, hi, rfl⟩ := Array.mem_iff_getElem.mp hz
  have hi' : i < g.size := by simpa using hi
  rw [Array.getElem_setIfInBounds]
  · split
    · exact hy
    · exact h _ (Array.getElem_mem hi')
  · exact hi'
theorem un_skip {fs : List Addr} {I : Addr} {H1 H4 H : Hp} {h1 h4 h : Heap} (a : Un fs [] H1 H4 h1 h4) (b : Un fs [I] H4 H h4 h) (hI : h1.objs.size ≤ I) : Un fs [] H1 H h1 h := by
  have u := (a.mono (fs' := fs) (ex' := [I]) (fun _ z => z) (fun _ z => nomatch z)).trans b
  have no : ∀ c o, h1.get? c = some o → c ∉ [I] := fun c o e z => by
    have l := Heap.lt_size e
    rw [List.mem_singleton.mp z] at l
    exact absurd (Nat.lt_of_lt_of_le l hI) (Nat.lt_irrefl _)
  exact ⟨fun c o e n hf _ => u.keep c o e n hf (no c o e), fun c o e n hf _ => u.slot c o e n hf (no c o e), fun c o e n _ => u.free c o e n (no c o e), fun c o e _ => u.there c o e (no c o e), u.tups, u.frzs, u.tbls⟩
theorem un_tab {fs : List Addr} {H : Hp} {P : Addr} {ps more : Array Value} {h h' : Heap} (hP : H P = some (.tbl ps)) (k : ∀ b o, b ≠ P → h.get? b = some o → h'.get? b = some o) (at1 : ∃ o, h'.get? P = some o) : Un fs [] H (upd H P (.tbl (ps ++ more))) h h' := by
  have nN : ∀ b, H b = none → b ≠ P := fun b e z => by
    rw [z, hP] at e
    cases e
  have nO : ∀ b u, H b = some u → (∀ q, u ≠ .tbl q) → b ≠ P := fun b u e q z => by
    rw [z, hP] at e
    exact q ps (Option.some.inj e).symm
  refine ⟨fun b o e n _ _ => k b o (nN b n) e, fun b o e n _ _ => ⟨o.slots, k b o (nN b n) e⟩, fun b o e n _ => by rw [upd_ne (nN b n)]; exact n, fun b o e _ => ?_, fun b xs e => by rw [upd_ne (nO b _ e fun q z => by cases z)]; exact e, fun b o u e => by rw [upd_ne (nO b _ e fun q z => by cases z)]; exact e, fun b qs e => ?_⟩
  · by_cases hb : b = P
    · rw [hb]
      exact at1
    · exact ⟨o, k b o hb e⟩
  · by_cases hb : b = P
    · rw [hb, hP] at e
      cases e
      rw [hb, upd_same]
      exact ⟨more, rfl⟩
    · rw [upd_ne hb, e]
      exact ⟨#[], by simp⟩
def tAllN (K : PySem.W.Frag) (P : Addr) (tel te : TE) : TE := fun σ H Q => te σ H fun v H1 => ∃ (t : Addr) (xs : List V) (tr : Nat → Bool) (W : Nat → Hp → Prop), v = .ref t ∧ SqT K H1 t xs ∧ GxR.TabG H1 P ∧
  (∀ H2, GxR.Tabbed P H1 H2 → W 0 H2) ∧ (∀ i H, W i H → SqT K H t xs ∧ ∀ b, H1 b = none → H b = none) ∧
  (∀ (J : Addr) (i : Nat) (H : Hp) (v : V), xs[i]? = some v → W i H → tel [some (.ref J), some v] H fun y H' => y = .bl (tr i) ∧ W (i + 1) H') ∧ ∀ (i : Nat) (H : Hp), W i H → Q (.bl ((List.range xs.length).all tr)) H
section
variable {X : Cx}
theorem pe_allN {c P : Addr} {elt iter : Expr} {x : Str} {px p pos gpos : Pos} {scope : Scope} {tel te : TE} {k : Nat} (hr : Room (k + 1) X.A) (hg : Gl X "all") (hm : X.mg "all" = none) (TB : GxR.TabB X.base X.mg c P) (hc : X.env.code = .ref c) (S : GenOne scope x) (hi : PE X iter te)
    (he : ∀ (A : Around) (C : Addr) (code : Value) (s4 : Shared) (H4 : Hp) (I : Addr), Room k A → PE (gx X A x scope C code s4 H4 I) elt tel) (hs : ∀ v, genFold iter X.env v = pure v := by intro _; rfl)
    (hse : starEach [gExp elt iter x px scope gpos] X.env = (false, eval (gExp elt iter x px scope gpos) X.env) :: starEach [] X.env := by rfl) :
    PE X (.Call (.Name "all" p) [gExp elt iter x px scope gpos] [] pos) (tAllN X.K P tel te) := by
  have hv : bootBuiltins ("all" : Str) = some (.builtin "all") := by decide +kernel
  refine ⟨fun pins s σ H Q inv h => wpAny_Call_Name_kw (ld_blt inv hg hm hv (PyProof.Rows.callWith_builtin1 ?_ hse (by rfl)))⟩
  rw [hse]
  show wpAny _ _ (spliced ((false, _) :: backTo pos (starEach [] X.env))) _ _ s
  refine Calls.spliced_cons ?_
  have noF : ∀ y ∈ scope.names, y.2 ≠ .free := fun y hy => (S.own y hy).2
  have clo : closureFor scope X.env = pure [] := by
    rw [closure_ok fun y hy e => absurd e (noF y hy), clo_nil _ _ _ noF]
  refine wpAny_GeneratorExp_make S.co clo (fun y hy => (S.own y hy).1) S.dot S.kind (by have := hr.dp; omega) ?_ hs
  refine thn (hi.run pins s σ H _ inv h) fun xv s1 ⟨v, H1, inv1, rel, q1⟩ => ?_
  obtain ⟨t, xs, tr, W, rfl, sq, ⟨tb, hP, ht⟩, w0, wsq, wst, q⟩ := q1
  cases rel
  obtain ⟨its, vals, tupA, fit⟩ := inv1.tuple sq
  have len : its.toArray.size = xs.length := by rw [List.size_toArray, ← vals.length]
  have isT : s1.heap.IsTuple t its.toArray := tupA
  have lt1 : t < s1.heap.objs.size := by
    obtain ⟨o, e, _⟩ := isT
    exact Heap.lt_size e
  have at0 : s1.heap.get? P = some { cls := .none, data := .fields tb } := inv1.hok P _ hP
  have ltP : P < s1.heap.objs.size := Heap.lt_size at0
  have neP : t ≠ P := fun e => by
    obtain ⟨o, e1, e2, _⟩ := isT
    rw [e, at0] at e1
    cases e1
    cases e2
  refine wpAny_pyIter_tuple tupA ⟨inv1.nolimit.push _, gen_code inv1 TB hc hP ht fun code h3 tk more ext big at3 tri => ?_⟩
  intro h' ns same
  have keep3 : ∀ b u, b ≠ P → s1.heap.get? b = some u → h3.get? b = some u := fun b u nb e => ext b u nb (Heap.get?_push_of_some _ e)
  have inv4 := GxR.inv_tab (more := more) (h' := h3) (g' := s1.gens) (d' := s1.drawn) (t' := tk) inv1 hP keep3 at3 inv1.bare
  have un4 : Un (frs X.stack) [] H1 (upd H1 P (.tbl (tb ++ more))) s1.heap h3 := un_tab hP keep3 ⟨_, at3⟩
  have tab4 : GxR.Tabbed P H1 (upd H1 P (.tbl (tb ++ more))) := ⟨⟨_, upd_same, tri⟩, fun b nb => upd_ne nb⟩
  have w4 := w0 _ tab4
  have it3 : h3.IsTupleIter s1.heap.objs.size t 0 := ⟨_, ext _ _ (Nat.ne_of_gt ltP) (Heap.get?_push_size _ rfl), rfl, rfl⟩
  have tup3 : h3.IsTuple t its.toArray := isT.at fun o e => keep3 _ _ neP e
  have upI : s1.heap.objs.size < h3.objs.size := big
  have sz' : h'.objs.size = h3.objs.size + 1 := by
    rw [same.1]
    exact Heap.size_push ..
  have keep' : ∀ b o, h3.get? b = some o → h'.get? b = some o := fun b o e => same.extBut b o (Nat.ne_of_lt (Heap.lt_size e)) (Heap.get?_push_of_some _ e)
  generalize hH4 : upd H1 P (.tbl (tb ++ more)) = H4 at inv4 un4 w4 tab4
  have none4 : ∀ b, h3.objs.size ≤ b → H4 b = none := fun b hb => inv4.hok.fresh hb
  have nI0 : H1 s1.heap.objs.size = none := inv1.hok.fresh (Nat.le_refl _)
  have nIf : s1.heap.objs.size ∉ frs X.stack := fun z => by
    obtain ⟨_, o, e, _⟩ := inv1.stack.mem z
    exact absurd (Heap.lt_size e) (Nat.lt_irrefl _)
  have naf : ∀ b, h3.objs.size ≤ b → b ∉ frs X.stack := fun b hb z => by
    obtain ⟨_, o, e, _⟩ := inv4.stack.mem z
    exact absurd (Nat.lt_of_lt_of_le (Heap.lt_size e) hb) (Nat.lt_irrefl _)
  refine Calls.spliced_nil ?_
  generalize hgo : ({ cls := .type "generator", data := .fields #[.int ((s1.gens.size : Nat) : Int) 0, .str "<genexpr>" (tk + 1), .str (X.env.qual ++ "<genexpr>") (tk + 1 + 1)] } : Obj) = go
  have isg : (h'.push go).IsGen h'.objs.size s1.gens.size := ⟨go, _, _, Heap.get?_push_size _ (by rw [← hgo]; rfl), by rw [← hgo], by rw [← hgo], by rw [← hgo]⟩
  have up5 : ∀ b o, h3.get? b = some o → (h'.push go).get? b = some o := fun b o e => Heap.get?_push_of_some _ (keep' b o e)
  obtain ⟨A', eA⟩ : ∃ A' : Around, A' = X.A.in1.in1.over (.compLoop (gExp elt iter x px scope gpos) 0 (.ref s1.heap.objs.size) .none (genEnv scope [] h3.objs.size code builtinsNs X.env)) [] := ⟨_, rfl⟩
  have roomA : Room k A' := by rw [eA]; exact room_gen hr
  have framesA : A'.frames = some (genEnv scope [] h3.objs.size code builtinsNs X.env :: X.stack) := by
    rw [eA]
    exact ov_frames inv1.ok.frames
  obtain ⟨X', eX⟩ : ∃ X' : Cx, X' = gx X A' x scope h3.objs.size code { s1 with heap := h3, toks := tk } H4 s1.heap.objs.size := ⟨_, rfl⟩
  have inv5 : Inv X' [(h'.objs.size, go)] [some (.ref s1.heap.objs.size), none] H4 { s1 with gens := s1.gens.push (.fresh (.compStart (gExp elt iter x px scope gpos) 0 (.ref s1.heap.objs.size) .none (genEnv scope [] h3.objs.size code builtinsNs X.env))), toks := tk + 1 + 1 + 1, heap := h'.push go } := by
    rw [eX]
    have look : ∀ y, ((genEnv scope [] h3.objs.size code builtinsNs X.env).kindOf y = some .cell ∨ (genEnv scope [] h3.objs.size code builtinsNs X.env).kindOf y = some .free) → False := fun y z => by
      rcases z with z | z
      · exact (S.own _ (PySem.mem_of_lookup (show scope.names.lookup y = some .cell from z))).1 rfl
      · exact (S.own _ (PySem.mem_of_lookup (show scope.names.lookup y = some .free from z))).2 rfl
    refine ⟨⟨inv1.ok.mod, S.kind, inv1.ok.glob, rfl, Nat.le_refl _, fun _ _ _ z => (nomatch z), fun y z => (look y z).elim, fun _ _ _ z => (nomatch z), fun _ => roomA.hd, framesA, .inr ⟨rfl, rfl⟩, fun b hb => ?_, inv4.bs, Nat.le_trans inv4.ok.bsz inv4.sz, fun b o e => ?_, fun b hb => ?_, inv4.stack, inv4.stkFree⟩,
      rfl, inv1.bare.push rfl, Un.kept up5, ⟨_, ns.push _, fun i y v h1 h2 h3' => ?_⟩, fun _ _ z => (nomatch z), none4 _ (Nat.le_refl _), fun _ _ z => (nomatch z), fun p hp => ?_, inv4.hok.kept up5, rfl⟩
    · rw [List.mem_singleton.mp hb]
      exact ⟨Nat.ne_of_lt upI, fun _ _ z => (nomatch z)⟩
    · intro z
      have l := Heap.lt_size (inv1.bk b o e)
      rw [List.mem_singleton.mp z] at l
      exact Nat.lt_irrefl _ l
    · rw [List.mem_singleton.mp hb]
      exact nIf
    · match i, h1, h2 with
      | 0, h1, h2 =>
        cases h1
        cases h2
        exact ⟨.ref s1.heap.objs.size, rfl, .inl ⟨S.dot, by simp⟩⟩
      | 1, h1, h2 => cases h2
      | i + 2, h1, h2 => simp at h2
    · rw [show p = (h'.objs.size, go) from List.mem_singleton.mp hp]
      refine ⟨Heap.get?_push_size _ (by rw [← hgo]; rfl), none4 _ (by omega), ?_, naf _ (by omega), fun v z => ?_⟩
      · show h'.objs.size ≠ h3.objs.size
        omega
      · rw [← hgo] at z
        cases z
  have G0 : GSt X' (h'.objs.size, go) s1.heap.objs.size t W 0 { s1 with gens := s1.gens.push (.fresh (.compStart (gExp elt iter x px scope gpos) 0 (.ref s1.heap.objs.size) .none (genEnv scope [] h3.objs.size code builtinsNs X.env))), toks := tk + 1 + 1 + 1, heap := h'.push go } :=
    ⟨H4, none, inv5, w4, it3.at fun o e => up5 _ o e⟩
  have hH : ∀ i H, W i H → H s1.heap.objs.size = none := fun i H w => (wsq i H w).2 _ nI0
  have loop := gen_loop (elt := elt) (iter := iter) (px := px) (pos := gpos) (A := X.A.in1.in1) (C := h3.objs.size) (I := s1.heap.objs.size) (t := t) (code := code) (s4 := { s1 with heap := h3, toks := tk }) (H4 := H4) (pin := (h'.objs.size, go)) (te := tel) (xs := xs) (tr := tr) (W := W)
    S hr.hd upI rfl nIf (Nat.ne_of_lt lt1) (show h'.objs.size ≠ s1.heap.objs.size by omega) hH (he _ _ _ _ _ _ (room_gen hr)) (fun i H w => (wsq i H w).1) (fun i H v e w => wst _ i H v e w)
  rw [← eA, ← eX] at loop
  have isg5 : ∀ s : Shared, (∃ (i : Nat), GSt X' (h'.objs.size, go) s1.heap.objs.size t W i s) → s.heap.IsGen h'.objs.size s1.gens.size := fun s ⟨i, H, y, inv', _⟩ => by
    obtain ⟨z, _⟩ := inv'.pin (h'.objs.size, go) (List.mem_append_right _ (List.mem_cons_self ..))
    exact ⟨go, _, _, z, by rw [← hgo], by rw [← hgo], by rw [← hgo]⟩
  have endOf : ∀ (i : Nat) (H : Hp) (y : Option V) (s : Shared), Inv X' [(h'.objs.size, go)] [some (.ref s1.heap.objs.size), y] H s → W i H → ∀ (s' : Shared), s'.os = s.os → AllBare s'.gens → (∀ b o, s.heap.get? b = some o → s'.heap.get? b = some o) →
      CE X.stack X.prog X.w H1 s1 Q (.bool ((List.range xs.length).all tr)) s' := fun i H y s inv' w s' os br kp => by
    have ub := inv'.base
    have uo := inv'.os
    rw [eX] at ub uo
    have u1 : Un (frs X.stack) [] H1 H s1.heap s.heap := un_skip un4 ub (Nat.le_refl _)
    have hok := inv'.hok
    rw [eX] at hok
    exact ⟨.bl _, H, os.trans uo, br, u1.trans (Un.kept kp), hok.kept kp, rfl, q i H w⟩
  refine call_function_tree F.kind_all F.plain_all F.entry_all (F.args_all1 _) ?_
  unfold Builtin.«all»
  refine wpAny_bind (m := oneArg "all" _) (wpAny_pure ?_)
  refine wpAny_bind (wpAny_pyIter_gen (isg5 _ ⟨0, G0⟩) ?_)
  refine wpAny_pure ⟨plainId_quiet F.plain_all_loop _, all_loop (a := h'.objs.size) (n := xs.length) (tr := tr)
    (J := fun i s => GSt X' (h'.objs.size, go) s1.heap.objs.size t W i s ∧ ∃ gs, s.gens[s1.gens.size]? = some gs ∧ ∀ g, AllBare g → gs.Goes (model X.prog X.w) X.A.in1.in1 (gR X' (h'.objs.size, go) s1.heap.objs.size xs.length W) (gY X' (h'.objs.size, go) s1.heap.objs.size t xs.length tr W) (xs.length - i) (.send .none) { s with gens := g })
    (Je := fun s' => CE X.stack X.prog X.w H1 s1 Q (.bool ((List.range xs.length).all tr)) s') (fun i s ⟨⟨H, y, inv', w, _⟩, _⟩ => endOf i H y s inv' w s rfl inv'.bare fun _ _ e => e) ?item ?done xs.length 0 _ rfl (Nat.zero_le _) ⟨G0, _, Array.getElem?_push_size .., fun g hg => ⟨rfl, ?start⟩⟩ fun s' ce => ?_⟩
  case start =>
    have it5 : (h'.push go).IsTupleIter s1.heap.objs.size t 0 := it3.at fun o e => up5 _ o e
    have tup5 : (h'.push go).IsTuple t its.toArray := tup3.at fun o e => up5 _ o e
    have z := loop xs.length 0 { s1 with gens := g, toks := tk + 1 + 1 + 1, heap := h'.push go } { s1 with gens := g, toks := tk + 1 + 1 + 1, heap := h'.push go } rfl (Nat.zero_le _) (G0.gens hg)
    exact gen_start (X := X) (A := X.A.in1.in1) (its := its.toArray) hr.hd (Nat.ne_of_lt lt1) it5 tup5 z
  case item =>
    rintro i s5 Q5 E5 lt ⟨G, gs, hgs, go5⟩ q5
    obtain ⟨m, em⟩ : ∃ m, xs.length - i = m + 1 := ⟨xs.length - i - 1, by omega⟩
    rw [em] at go5
    obtain ⟨H5, y5, inv5', w5, _⟩ := id G
    have gl : s1.gens.size < s5.gens.size := (Array.getElem?_eq_some_iff.mp hgs).1
    refine GenW.wpAny_gsz (n := s1.gens.size + 1) gl ?_
    refine wpAny_pyNext_genexpQ (n := m + 1) (P := fun m _ s1' => m = 0 ∧ ∃ (H : Hp) (y : Option V), Inv X' [(h'.objs.size, go)] [some (.ref s1.heap.objs.size), y] H s1' ∧ W xs.length H) (Y := gY X' (h'.objs.size, go) s1.heap.objs.size t xs.length tr W)
      hr.hd inv5'.nolimit (by have := hr.dp; show X.A.depth < _; omega) (isg5 _ ⟨i, G⟩) hgs (go5 _ (bare_set inv5'.bare rfl)) (fun v s6 gs' hb hv => ?_) (fun s6 hp h6 hk => ?_)
    · obtain ⟨rfl, G6, kap⟩ := hv
      intro sz6
      rw [show xs.length - 1 - (m + 1 - 1) = i by omega]
      rw [show xs.length - (m + 1 - 1) = i + 1 by omega] at G6
      obtain ⟨H6, y6, inv6, w6, _⟩ := id G6
      refine q5 _ ⟨G6.gens (bare_set inv6.bare hb), gs', ?_, fun g hg => ?_⟩
      · have l6 : s1.gens.size < s6.gens.size := by
          rw [GenW.setGen_size] at sz6
          omega
        show (s6.gens.setIfInBounds s1.gens.size gs')[s1.gens.size]? = some gs'
        rw [Array.getElem?_setIfInBounds_self_of_lt l6]
      · rw [show xs.length - (i + 1) = m by omega]
        exact kap g hg
    · exact absurd hp.1 (Nat.succ_ne_zero m)
  case done =>
    rintro s5 Q5 E5 ⟨G, gs, hgs, go5⟩ q5
    rw [Nat.sub_self] at go5
    obtain ⟨H5, y5, inv5', w5, _⟩ := id G
    refine wpAny_pyNext_genexpQ (n := 0) (P := fun m _ s1' => m = 0 ∧ ∃ (H : Hp) (y : Option V), Inv X' [(h'.objs.size, go)] [some (.ref s1.heap.objs.size), y] H s1' ∧ W xs.length H) (Y := gY X' (h'.objs.size, go) s1.heap.objs.size t xs.length tr W)
      hr.hd inv5'.nolimit (by have := hr.dp; show X.A.depth < _; omega) (isg5 _ ⟨_, G⟩) hgs (go5 _ (bare_set inv5'.bare rfl)) (fun v s6 gs' hb hv => ?_) (fun s6 hp h6 hk => ?_)
    · obtain ⟨_, G6, kap⟩ := hv
      obtain ⟨H6, y6, inv6, w6, _⟩ := id G6
      exact (kap _ inv6.bare).elim
    · obtain ⟨_, H6, y6, inv6, w6⟩ := hp
      exact q5 _ (endOf _ H6 y6 s6 inv6 w6 _ rfl (bare_set inv6.bare rfl) hk)
  · rw [List.drop_zero]
    exact inv1.after ce
end
end Lt

set_option Elab.async false
set_option linter.all false
set_option maxRecDepth 100000
set_option maxHeartbeats 4000000
/-! 'a' <= sign <= 'z' as a generator's element; len(set(t)), t a tuple of texts. -/
namespace Lt
open PySem PySem.Spec PyProof.Rows L2
/-- a small letter -/
def small (c : Nat) : Bool := decide (97 ≤ c) && decide (c ≤ 122)
theorem sign_le (a c : Nat) : (!decide ([c] < [a])) = decide (a ≤ c) := by
  by_cases h : a ≤ c
  · rw [decide_eq_true h, decide_eq_false (fun z => by
      rw [List.cons_lt_cons_iff] at z
      rcases z with z | z
      · omega
      · exact List.not_lt_nil _ z.2)]
    rfl
  · rw [decide_eq_false h, decide_eq_true (List.cons_lt_cons_iff.mpr (.inl (by omega)))]
    rfl
theorem elt_az {prog : Program} {w : World} {scope : Scope} {x : Str} {j k : Nat} {p1 p2 p3 p4 : Pos} (hk : scope.kind = .function) (hl : scope.names.lookup x = some .local) (hd : (x == ("__debug__" : Str)) = false := by decide)
    (hm : lastMarks [.LtE, .LtE] [.Name x p2, .Constant (.str "z") k p3] = false := by with_unfolding_all rfl) :
    GxR.EltP prog w scope x (.Compare (.Constant (.str "a") j p1) [.LtE, .LtE] [.Name x p2, .Constant (.str "z") k p3] p4) small := by
  intro cenv A' E' c t s2 m2 hs hn hm2
  refine Compare_chain (Calls.Constant_str (chain_link (wpAny_Name (wpAny_loadName_local (by rw [hs]; exact hk) (show cenv.scope.names.lookup x = some .local by rw [hs]; exact hl) hn hm2 ?_) hd))) hm
  refine PySem.P.le_str ?_
  have e1 : (!decide ((⟨#[c]⟩ : Str).cps.toList < ("a" : Str).cps.toList)) = decide (97 ≤ c) := sign_le 97 c
  rw [e1]
  refine wpAny_truthy_bool ?_
  by_cases h : 97 ≤ c
  · rw [decide_eq_true h]
    refine ite_tt (chain_last (Calls.Constant_str (PySem.P.le_str ?_)))
    have e2 : (!decide (("z" : Str).cps.toList < (⟨#[c]⟩ : Str).cps.toList)) = decide (c ≤ 122) := sign_le c 122
    rw [e2]
    refine ⟨?_, GxR.keeps_tok _ _⟩
    unfold small
    rw [decide_eq_true h, Bool.true_and]
  · rw [decide_eq_false h]
    refine ite_ff ⟨?_, GxR.keeps_tok _ _⟩
    unfold small
    rw [decide_eq_false h, Bool.false_and]
section
variable {prog : Program} {w : World} {A : Around} {E : Value → Shared → Prop} {s : Shared}
theorem set_txtsT {l : Addr} {items : Array Value} {ss : List Str} {Q : Value → Shared → Prop} (calm : A.handled = none) (hl : s.heap.IsTuple l items) (val : ∀ (i : Nat) (v : Value), items[i]? = some v → ∃ z t, ss[i]? = some z ∧ v = .str z t)
    (len : items.size = ss.length) (room : items.size + 1 < scanBound)
    (h : ∀ (h' : Heap) (tk : Nat), h'.SetOf (PySem.strKind prog w) s.heap.objs.size (fun z => decide (z ∈ ss)) (dist ss) → (∀ b o, s.heap.get? b = some o → h'.get? b = some o) → Q (.ref s.heap.objs.size) { s with heap := h', toks := tk }) :
    wpAny (model prog w) A (call (.type "set") [.ref l]) Q E s := by
  refine set_call fun led => ?_
  generalize hso : ({ cls := .type "set", dict := none, data := .set #[] 0 (.fresh 0 0 led) } : Obj) = so
  have below : (l : Nat) < s.heap.objs.size := by
    obtain ⟨o, ho, _⟩ := hl
    exact Heap.lt_size ho
  have atS : (s.heap.push so).get? s.heap.objs.size = some so := Heap.get?_push_size _ (by rw [← hso]; rfl)
  have hl1 : (s.heap.push so).IsTuple l items := hl.at fun o e => Heap.get?_push_of_some _ e
  have top1 : (s.heap.push so).objs.size = s.heap.objs.size + 1 := Heap.size_push _ _
  obtain ⟨⟨oc, od, odt, osl⟩, ho1, hc1, n1, hd1⟩ := id hl1
  simp only at hc1 hd1
  subst hc1 hd1
  have no1 := PySem.F.sub_tuple_set
  have no2 := PySem.F.sub_tuple_frozenset
  have no3 : (Value.type "tuple" == Value.type "dict") = false := by decide
  unfold Builtin.«set.__init__» noKeywords Builtin.Frozenset.updateFrom
  generalize hPI : pyIter = PI
  subst hso
  wp_walk
  subst hPI
  refine wpAny_pyIter_tuple hl1 (wpAny_bind (wpAny_runValue ?_))
  have calm3 : A.in1.in1.in1.handled = none := by simp [calm]
  have neI : l ≠ (s.heap.push { cls := .type "set", dict := none, data := .set #[] 0 (.fresh 0 0 led) }).objs.size := by
    rw [top1]
    exact Nat.ne_of_lt (Nat.lt_succ_of_lt below)
  have offS : s.heap.objs.size ∉ [(s.heap.push { cls := .type "set", dict := none, data := .set #[] 0 (.fresh 0 0 led) }).objs.size, l] := by
    rw [top1]
    intro z
    rcases List.mem_cons.mp z with e | e
    · exact Nat.succ_ne_self _ e.symm
    · exact absurd (List.mem_singleton.mp e) (Nat.ne_of_gt below)
  refine txt_loop ((Walks.tuple calm3 _ l neI items).toS) s.heap.objs.size offS ss len room val items.size 0 _ (Nat.zero_add _) ⟨⟨_, Heap.get?_push_size _ rfl, rfl, rfl⟩, hl1.at fun o e => Heap.get?_push_of_some _ e⟩ ?empty ?filled
  case empty =>
    refine SetOf_congr ((setObjOf_fresh (knd := PySem.strKind prog w) led).setOf (Heap.get?_push_of_some _ atS) (by unfold scanBound; omega)) (fun z => ?_) rfl
    simp
  case filled =>
    intro s5 mv set5
    obtain ⟨h5, g5, d5, tk5, os5⟩ := s5
    obtain rfl : g5 = s.gens := mv.gens
    obtain rfl : d5 = s.drawn := mv.drawn
    obtain rfl : os5 = s.os := mv.os
    show wpAny _ _ _ _ _ _
    refine wpAny_pure (show wpAny _ _ (ret Value.none) _ _ _ from wpAny_pure ⟨rfl, h h5 tk5 set5 fun b o e => ?_⟩)
    have lt : b < s.heap.objs.size := Heap.lt_size e
    refine mv.heap b o (fun z => ?_) (Heap.get?_push_of_some _ (Heap.get?_push_of_some _ e))
    rcases List.mem_cons.mp z with e2 | e2
    · exact absurd e2 (Nat.ne_of_lt lt)
    · rw [List.mem_singleton.mp e2, top1] at lt
      exact absurd lt (Nat.not_lt.mpr (Nat.le_succ _))
end
section
variable {X : Cx}
def tLenSetT (K : PySem.W.Frag) (ta : TE) : TE := fun σ H Q => ta σ H fun x H1 => ∃ (l : Addr) (ss : List Str), x = .ref l ∧ SqT K H1 l (ss.map V.str) ∧ ss.length ≤ 1000 ∧ Q (.int (dist ss : Nat)) H1
theorem pe_lenSetT {a : Expr} {ta : TE} {p p2 q pos : Pos} (hcalm : X.calm = true) (g1 : Gl X "len") (m1 : X.mg "len" = none) (g2 : Gl X "set") (m2 : X.mg "set" = none) (ha : PE X a ta)
    (one : starEach [a] X.env = (false, eval a X.env) :: starEach [] X.env := by rfl) : PE X (.Call (.Name "len" p) [.Call (.Name "set" p2) [a] [] q] [] pos) (tLenSetT X.K ta) := by
  refine ⟨fun pins s σ H Q inv h => Call_ (ld_blt inv g1 m1 boot_len (callWith_builtin1 (args_cons ?_ rfl) rfl rfl))⟩
  refine Call_ (ld_blt inv g2 m2 boot_set (callWith_type1 (args_cons (thn (ha.run pins s σ H _ inv h) fun v s1 ⟨x, H1, inv1, rel, l, ss, ev, sq, few, q1⟩ => args_nil ?_) one) one rfl))
  subst ev
  cases rel
  obtain ⟨its, vals, tup, _⟩ := inv1.tuple sq
  have len : its.toArray.size = ss.length := by rw [List.size_toArray, ← vals.length, List.length_map]
  refine set_txtsT (ss := ss) (inv1.ok.hd hcalm) tup (fun i v e => ?_) len (by rw [len]; unfold scanBound; omega) fun h' tk set kept => args_nil ?_
  · have e' : its[i]? = some v := by simpa using e
    have hi : i < ss.length := by
      have z := (List.getElem?_eq_some_iff.mp e').1
      rw [← len, List.size_toArray]
      exact z
    obtain ⟨u, g3, t, g4⟩ := vals.get (i := i) (x := .str ss[i]) (by simp [hi])
    rw [e'] at g3
    cases g3
    exact ⟨ss[i], t, List.getElem?_eq_getElem hi, g4⟩
  · obtain ⟨o, es, ep, tb, ho, ex, hd, _, _, _, fits, num⟩ := set
    have small : dist ss ≤ 1000 := Nat.le_trans (dist_le ss) few
    have inv2 : Inv X pins σ H1 { s1 with heap := h', toks := tk } := inv1.kept kept
    exact call_len_set ho ex hd fits (by rw [num]; omega) ⟨.int (dist ss : Nat), H1, inv2.tok _, ⟨_, by rw [num]⟩, q1⟩
end
end Lt

set_option Elab.async false
set_option linter.all false
set_option maxRecDepth 100000
set_option maxHeartbeats 4000000
/-! what a name and a pile are, of any data; heaps that differ in tables alone. -/
namespace Lt
open PySem PySem.Spec PyProof.Rows L2
def nameD : PyData → Bool
  | .str z => decide (1 ≤ z.length) && decide (z.length ≤ 8) && z.cps.toList.all small
  | _ => false
def txts (ds : List PyData) : List Str := ds.filterMap fun d => match d with
  | .str z => some z
  | _ => none
def pileD : PyData → Bool
  | .tuple ds => decide (1 ≤ ds.length) && decide (ds.length ≤ 7) && ds.all nameD && decide (dist (txts ds) = ds.length)
  | _ => false
theorem nameD_str (z : Str) : nameD (.str z) = (decide (1 ≤ z.length) && decide (z.length ≤ 8) && z.cps.toList.all small) := rfl
theorem pileD_tup (ds : List PyData) : pileD (.tuple ds) = (decide (1 ≤ ds.length) && decide (ds.length ≤ 7) && ds.all nameD && decide (dist (txts ds) = ds.length)) := rfl
theorem name_str {d : PyData} (h : nameD d = true) : ∃ z, d = .str z := by
  cases d with
  | str z => exact ⟨z, rfl⟩
  | _ => cases h
theorem kind_str {K : PySem.W.Frag} {H : Hp} {v : V} {d : PyData} (dp : Dp K H v d) : (∃ z, d = .str z) ∨ ((∀ z, d ≠ .str z) ∧ kitB (kindName d) "str" = some false) := by
  cases d with
  | str z => exact .inl ⟨z, rfl⟩
  | none => exact .inr ⟨fun z => (nomatch ·), (show kitB "NoneType" "str" = some false by decide +kernel)⟩
  | bool b => exact .inr ⟨fun z => (nomatch ·), (show kitB "bool" "str" = some false by decide +kernel)⟩
  | int i => exact .inr ⟨fun z => (nomatch ·), (show kitB "int" "str" = some false by decide +kernel)⟩
  | list ds => exact .inr ⟨fun z => (nomatch ·), (show kitB "list" "str" = some false by decide +kernel)⟩
  | tuple ds => exact .inr ⟨fun z => (nomatch ·), (show kitB "tuple" "str" = some false by decide +kernel)⟩
  | dict kvs => cases dp
theorem kind_tup {K : PySem.W.Frag} {H : Hp} {v : V} {d : PyData} (dp : Dp K H v d) : (∃ ds, d = .tuple ds) ∨ ((∀ ds, d ≠ .tuple ds) ∧ kitB (kindName d) "tuple" = some false) := by
  cases d with
  | tuple ds => exact .inl ⟨ds, rfl⟩
  | none => exact .inr ⟨fun z => (nomatch ·), (show kitB "NoneType" "tuple" = some false by decide +kernel)⟩
  | bool b => exact .inr ⟨fun z => (nomatch ·), (show kitB "bool" "tuple" = some false by decide +kernel)⟩
  | int i => exact .inr ⟨fun z => (nomatch ·), (show kitB "int" "tuple" = some false by decide +kernel)⟩
  | list ds => exact .inr ⟨fun z => (nomatch ·), (show kitB "list" "tuple" = some false by decide +kernel)⟩
  | str z => exact .inr ⟨fun z => (nomatch ·), (show kitB "str" "tuple" = some false by decide +kernel)⟩
  | dict kvs => cases dp
theorem name_no {d : PyData} (h : ∀ z, d ≠ .str z) : nameD d = false := by
  cases d with
  | str z => exact absurd rfl (h z)
  | _ => rfl
theorem pile_no {d : PyData} (h : ∀ ds, d ≠ .tuple ds) : pileD d = false := by
  cases d with
  | tuple ds => exact absurd rfl (h ds)
  | _ => rfl
theorem no_free {names : List (Str × NameKind)} {q : Str × NameKind → Prop} (h : names.all (fun y => y.2 != .free) = true) : ∀ y ∈ names, y.2 = .free → q y := fun y hy e => by
  have z := List.all_eq_true.mp h y hy
  rw [e] at z
  cases z
theorem txts_map : ∀ ss : List Str, txts (ss.map PyData.str) = ss
  | [] => rfl
  | x :: r => by
    show x :: txts (r.map PyData.str) = x :: r
    rw [txts_map r]
theorem txts_all : ∀ {ds : List PyData}, (∀ d ∈ ds, nameD d = true) → ds = (txts ds).map PyData.str
  | [], _ => rfl
  | d :: ds, h => by
    obtain ⟨z, rfl⟩ := name_str (h d (List.mem_cons_self ..))
    have ih := txts_all (ds := ds) fun e he => h e (List.mem_cons_of_mem _ he)
    have e : txts (PyData.str z :: ds) = z :: txts ds := rfl
    rw [e, List.map_cons, ← ih]
theorem dpAll_txts {K : PySem.W.Frag} {H : Hp} : ∀ {vs : List V} {ss : List Str}, DpAll K H vs (ss.map PyData.str) → vs = ss.map V.str
  | _, [], .nil => rfl
  | _, x :: r, .cons h t => by
    cases h
    rw [List.map_cons, dpAll_txts t]
def atD (p : PyData → Bool) (l : List PyData) (i : Nat) : Bool := match l[i]? with
  | some d => p d
  | none => false
theorem atD_some {p : PyData → Bool} {l : List PyData} {i : Nat} {d : PyData} (h : l[i]? = some d) : atD p l i = p d := by
  unfold atD
  rw [h]
theorem all_at (p : PyData → Bool) (l : List PyData) : (List.range l.length).all (atD p l) = l.all p := by
  rw [Bool.eq_iff_iff, List.all_eq_true, List.all_eq_true]
  constructor
  · intro h d hd
    obtain ⟨i, hi⟩ := List.getElem?_of_mem hd
    have l := (List.getElem?_eq_some_iff.mp hi).1
    have z := h i (List.mem_range.mpr l)
    rw [atD_some hi] at z
    exact z
  · intro h i hi
    have l := List.mem_range.mp hi
    rw [atD_some (List.getElem?_eq_getElem l)]
    exact h _ (List.getElem_mem l)
/-! ### heaps that differ in tables alone -/
def SameN (H H' : Hp) : Prop := ∀ b o, H b = some o → (∀ q, o ≠ .tbl q) → H' b = some o
theorem SameN.refl (H : Hp) : SameN H H := fun _ _ h _ => h
theorem SameN.trans {H H1 H2 : Hp} (a : SameN H H1) (b : SameN H1 H2) : SameN H H2 := fun c o h n => b c o (a c o h n) n
theorem SameN.of {H H' : Hp} (s : Same H H') : SameN H H' := fun c o h _ => s c o h
theorem SameN.tab {P : Addr} {H H' : Hp} (t : GxR.TabG H P) (s : GxR.Tabbed P H H') : SameN H H' := fun b o h n => by
  by_cases e : b = P
  · obtain ⟨ps, h1, _⟩ := t
    rw [e, h1] at h
    exact absurd (Option.some.inj h).symm (n ps)
  · rw [s.2 b e]
    exact h
theorem SameN.tup {K : PySem.W.Frag} {H H' : Hp} {a : Addr} {xs : List V} (e : SameN H H') (h : SqT K H a xs) : SqT K H' a xs := by
  rcases h with (h | ⟨o, h⟩) | h
  · exact .inl (.inl (e _ _ h fun q z => nomatch z))
  · exact .inl (.inr ⟨o, e _ _ h fun q z => nomatch z⟩)
  · exact .inr h
theorem SameN.lst {K : PySem.W.Frag} {H H' : Hp} {a : Addr} {xs : List V} (e : SameN H H') (h : SqL K H a xs) : SqL K H' a xs := by
  rcases h with (h | ⟨o, h⟩) | h
  · exact .inl (.inl (e _ _ h fun q z => nomatch z))
  · exact .inl (.inr ⟨o, e _ _ h fun q z => nomatch z⟩)
  · exact .inr h
mutual
theorem dp_sameN {K : PySem.W.Frag} {H H' : Hp} (e : SameN H H') : ∀ {v : V} {d : PyData}, Dp K H v d → Dp K H' v d
  | _, _, .non => .non
  | _, _, .bl b => .bl b
  | _, _, .int i => .int i
  | _, _, .str x => .str x
  | _, _, .lst h a => .lst (e.lst h) (dpAll_sameN e a)
  | _, _, .tup h a => .tup (e.tup h) (dpAll_sameN e a)
theorem dpAll_sameN {K : PySem.W.Frag} {H H' : Hp} (e : SameN H H') : ∀ {vs : List V} {ds : List PyData}, DpAll K H vs ds → DpAll K H' vs ds
  | _, _, .nil => .nil
  | _, _, .cons h t => .cons (dp_sameN e h) (dpAll_sameN e t)
end
theorem TpO.sameN {H H' : Hp} {a : Addr} {xs : List V} (h : TpO H a xs) (e : SameN H H') : TpO H' a xs := by
  obtain ⟨u, h1, o, rfl, r⟩ := h
  exact ⟨_, e _ _ h1 (fun q z => nomatch z), o, rfl, r⟩
theorem Tape.sameN {H H' : Hp} {T S : Addr} {ns : List Int} (t : Tape H T S ns) (s : SameN H H') : Tape H' T S ns := by
  obtain ⟨i, c, h⟩ := t.at_
  exact ⟨⟨i, c, s _ _ h (fun q z => nomatch z)⟩, s _ _ t.scr (fun q z => nomatch z)⟩
theorem SameN.lstH {H H' : Hp} {a : Addr} {xs : List V} (e : SameN H H') (h : H a = some (.lst xs)) : H' a = some (.lst xs) := e _ _ h fun q z => nomatch z
theorem SameN.tupH {H H' : Hp} {a : Addr} {xs : List V} (e : SameN H H') (h : H a = some (.tup xs)) : H' a = some (.tup xs) := e _ _ h fun q z => nomatch z
theorem tabG_same {P : Addr} {H H' : Hp} (t : GxR.TabG H P) (s : Same H H') : GxR.TabG H' P := by
  obtain ⟨ps, h, r⟩ := t
  exact ⟨ps, s _ _ h, r⟩
theorem tabG_but {P T : Addr} {H H' : Hp} (t : GxR.TabG H P) (s : SameT T H H') (h : ∃ xs, H T = some (.lst xs)) : GxR.TabG H' P := by
  obtain ⟨ps, h1, r⟩ := t
  obtain ⟨xs, h2⟩ := h
  exact ⟨ps, s _ _ (ne_of h1 h2 fun z => nomatch z) h1, r⟩
theorem tabG_tab {P P' : Addr} {H H' : Hp} (t : GxR.TabG H P) (s : GxR.Tabbed P' H H') : GxR.TabG H' P := by
  by_cases e : P = P'
  · rw [e]
    exact s.1
  · obtain ⟨ps, h, r⟩ := t
    exact ⟨ps, by rw [s.2 P e]; exact h, r⟩
theorem tabbed_refl {P : Addr} {H : Hp} (t : GxR.TabG H P) : GxR.Tabbed P H H := ⟨t, fun _ _ => rfl⟩
end Lt

set_option Elab.async false
set_option linter.all false
set_option maxRecDepth 100000
set_option maxHeartbeats 4000000
/-! Generator expressions of one clause or two, over anything that the layer walks, read in their own frame: what they hand out. -/
namespace Lt
open PySem PySem.Spec PyProof.Rows L2 GenW
abbrev TB := List V → L2.St → Hp → (List V → L2.St → Hp → Prop) → Prop
/-- a piece of a generator's code: what is out so far, the names, the heap -/
structure GB (X : Cx) (m : Sem Unit) (t : TB) : Prop where
  run : ∀ (A : Around) (S : Addr) (ip : List (Addr × Obj)) (R : GenEnd) (n : Nat) (ys : List V) (s₀ : Shared) (c : Code) (fs : List Frame) (K : Unit → Sem PySem.Fin) (J : Value → Sem PySem.Fin) (gd : Bool → Bool) (lv : List Value → List Value) (s : Shared) (σ : L2.St) (H : Hp) (N : List V → L2.St → Hp → Prop),
    GC X S ip A c fs gd → n + ys.length = sizeLine →
    (∀ (n' : Nat) (ys' : List V) (s₀' s' : Shared) (σ' : L2.St) (H' : Hp), n' + ys'.length = sizeLine → GI X S ip ys' σ' H' s' → N ys' σ' H' → Seg (model X.prog X.w) A R (GY X S) n' s₀' c (K ()) fs s') →
    GI X S ip ys σ H s → t ys σ H N → Seg (model X.prog X.w) A R (GY X S) n s₀ c (m.wrap K J gd lv) fs s
section
variable {X : Cx} {e : Expr} {te : TE}
def tEmit (te : TE) : TB := fun ys σ H N => ys.length < sizeLine ∧ te σ H fun x H1 => N (ys ++ [x]) σ H1
theorem gb_emit (hx : ∀ e s, ¬ X.xe e s) (he : PE X e te) (hco : X.env.scope.isCoroutine = false) : GB X (do let v ← eval e X.env; standAt e.pos; let _ ← yieldOut X.env v) (tEmit te) := by
  refine ⟨fun A S ip R n ys s₀ c fs K J gd lv s σ H N g hn k hI ht => ?_⟩
  obtain ⟨hlt, ht⟩ := ht
  obtain ⟨n, rfl⟩ : ∃ m, n = m + 1 := ⟨n - 1, by omega⟩
  obtain ⟨acc, cc, r, I⟩ := hI
  have hy : ∀ v, yieldOut X.env v = yieldValue v := fun v => by simp only [yieldOut, hco, Bool.false_eq_true, if_false]
  simp only [hy]
  refine seg_bind_wrap ?_
  rw [g.over]
  refine wpAny_mono (he.run _ s σ H _ I ht) (fun v s' hv => ?_) fun x s' hq => (hx _ _ hq).elim
  obtain ⟨x, H1, I1, rv, q⟩ := hv
  have G1 : GI X S ip ys σ H1 s' := ⟨acc, cc, r, I1⟩
  refine seg_at (seg_yield g.split g.gd g.guard ⟨ys, x, ip, σ, H1, hn, rv, G1, fun s'' z => ?_⟩)
  refine k n (ys ++ [x]) s'' s'' σ H1 ?_ (G1.woken g.pn g.ip g.apart rv z) q
  rw [List.length_append, List.length_singleton]
  omega
/-- what a clause's loop wants: W by the turn -/
def tLoop (J : It) (g : TG) (tb : TB) : TB := fun ys σ H N => ∃ (L : Nat) (W : Nat → List V → L2.St → Hp → Prop), W 0 ys σ H ∧
  (∀ i ys σ H, i < L → W i ys σ H → J.go i H ∧ ∀ x H', J.yld i H x H' → g x σ H' fun σ2 H2 => tb ys σ2 H2 (W (i + 1))) ∧ ∀ ys σ H, W L ys σ H → J.stop L H ∧ N ys σ H
/-- the iterator's own objects -/
def FpS (X : Cx) (S : Addr) (ip : List (Addr × Obj)) (b : Addr) : Prop :=
  b ≠ X.env.locals ∧ b ∉ X.fs ∧ (b ∈ X.ex ∨ X.s_0.heap.objs.size ≤ b) ∧ (∀ x c, X.env.cells.lookup x = some c → c ≠ b) ∧ (∀ p ∈ X.pn ++ ip, p.1 ≠ b) ∧ S ≠ b
theorem FpS.ok {S b : Addr} {ip : List (Addr × Obj)} {H : Hp} {o : Obj} (h : FpS X S ip b) (hn : H b = none) : FpOk X ((S, o) :: ip) H b := by
  obtain ⟨h1, h2, h3, h4, h5, h6⟩ := h
  refine ⟨hn, h1, h2, h3, h4, fun p hp => ?_⟩
  rcases List.mem_append.mp hp with z | z
  · exact h5 p (List.mem_append_left _ z)
  · rcases List.mem_cons.mp z with z | z
    · rw [z]
      exact h6
    · exact h5 p (List.mem_append_right _ z)
theorem fp_st {S b : Addr} {ip : List (Addr × Obj)} {H : Hp} {o : Obj} (h : FpOk X ((S, o) :: ip) H b) : FpS X S ip b := by
  obtain ⟨_, h1, h2, h3, h4, h5⟩ := h
  refine ⟨h1, h2, h3, h4, fun p hp => ?_, h5 (S, o) (List.mem_append_right _ List.mem_cons_self)⟩
  rcases List.mem_append.mp hp with z | z
  · exact h5 p (List.mem_append_left _ z)
  · exact h5 p (List.mem_append_right _ (List.mem_cons_of_mem _ z))
theorem cloop {tg iter : Expr} {d : Nat} {it : Addr} {fp : List Addr} {tn : Nat → Heap → Prop} {J : It} {g : TG} {body : Sem Unit} {tb : TB} {hxr : Value → Sem Unit} (hx : ∀ e s, ¬ X.xe e s) (hc : X.calm = true) (T : Turn X.prog X.w X.K tg J fp it tn) (hg : PG X tg g) (hb : GB X body tb)
    (den : (model X.prog X.w).den (.compLoop e d (.ref it) .none X.env) = Sem.onRaise (standAt iter.pos >>= fun _ => pyNext (.ref it) >>= fun r => match r with
      | none => pure (.done .next)
      | some v => letOwnedTupleGo tg (.ref it) v >>= fun _ => assign tg X.env v >>= fun _ => body >>= fun _ => again (.compLoop e d (.ref it) .none X.env)) hxr)
    {A : Around} {S : Addr} {ip : List (Addr × Obj)} {R : GenEnd} {fs : List Frame} (gc : GC X S ip A (.compLoop e d (.ref it) .none X.env) fs id) (fok : ∀ b ∈ fp, FpS X S ip b)
    {L : Nat} {W : Nat → List V → L2.St → Hp → Prop} {N : List V → L2.St → Hp → Prop} (step : ∀ i ys σ H, i < L → W i ys σ H → J.go i H ∧ ∀ x H', J.yld i H x H' → g x σ H' fun σ2 H2 => tb ys σ2 H2 (W (i + 1))) (last : ∀ ys σ H, W L ys σ H → J.stop L H ∧ N ys σ H)
    (fin : ∀ (n : Nat) (ys : List V) (s₀ s : Shared) (σ : L2.St) (H : Hp), n + ys.length = sizeLine → GI X S ip ys σ H s → N ys σ H → Seg (model X.prog X.w) A R (GY X S) n s₀ (.compLoop e d (.ref it) .none X.env) (leafOf (.ok .next)) fs s) :
    ∀ (k i n : Nat) (ys : List V) (s₀ s : Shared) (σ : L2.St) (H : Hp), L - i = k → i ≤ L → n + ys.length = sizeLine → W i ys σ H → GI X S ip ys σ H s → tn i s.heap → (∀ b ∈ fp, H b = none) →
      Seg (model X.prog X.w) A R (GY X S) n s₀ (.compLoop e d (.ref it) .none X.env) ((model X.prog X.w).den (.compLoop e d (.ref it) .none X.env)) fs s := by
  intro k
  induction k with
  | zero =>
    intro i n ys s₀ s σ H hk hi hn w hI st fr
    have e : i = L := by omega
    subst e
    obtain ⟨stop, q⟩ := last ys σ H w
    obtain ⟨acc, cc, r, I⟩ := hI
    rw [den, Sem.onRaise_eq_wrap]
    refine seg_bind_wrap (wpAny_standAt ?_)
    refine seg_bind_wrap ?_
    rw [gc.over]
    refine wpAny_mono (T.done X rfl rfl rfl hc _ _ s σ H (fun _ _ => False) I (fun b hb => (fok b hb).ok (fr b hb)) st stop) (fun r1 s1 h1 => ?_) fun _ _ z => z.elim
    obtain ⟨rfl, I1⟩ := h1
    exact fin n ys s₀ s1 σ H hn ⟨acc, cc, r, I1⟩ q
  | succ k ih =>
    intro i n ys s₀ s σ H hk hi hn w hI st fr
    have lt : i < L := by omega
    obtain ⟨go, stp⟩ := step i ys σ H lt w
    obtain ⟨acc, cc, r, I⟩ := hI
    rw [den, Sem.onRaise_eq_wrap]
    refine seg_bind_wrap (wpAny_standAt ?_)
    refine seg_bind_wrap ?_
    rw [gc.over]
    refine wpAny_mono (T.item X rfl rfl rfl hc _ _ s σ H (fun _ _ => False) I (fun b hb => (fok b hb).ok (fr b hb)) st go) (fun r1 s1 h1 => ?_) fun _ _ z => z.elim
    obtain ⟨u, rfl, h1⟩ := h1
    refine seg_bind_wrap ?_
    rw [gc.over]
    refine wpAny_mono h1 (fun _ s2 h2 => ?_) fun _ _ z => z.elim
    obtain ⟨x, H2, I2, rx, y2, st2, fr2⟩ := h2
    have I2' : Inv X ((S, lstObj acc cc) :: (ip ++ pinsAt fp s2.heap)) σ H2 s2 := I2.pinned (fun b hb => (fok b hb).ok (fr2 b hb)) (T.obj _ _ st2)
    refine seg_bind_wrap ?_
    rw [gc.over]
    refine wpAny_mono (hg.run _ s2 σ H2 x u _ I2' rx (stp x H2 y2)) (fun _ s3 h3 => ?_) fun _ _ z => (hx _ _ z).elim
    obtain ⟨σ3, H3, I3, q3⟩ := h3
    rw [Sem.bind_eq_wrap' body, Sem.wrap_wrap]
    refine hb.run A S (ip ++ pinsAt fp s2.heap) R n ys s₀ _ fs _ _ _ _ s3 σ3 H3 (W (i + 1)) ⟨gc.pn, fun p hp => ?_, gc.apart, gc.over, gc.split, gc.guard, rfl⟩ hn (fun n' ys' s₀' s4 σ4 H4 hn' G4 w4 => ?_) ⟨acc, cc, r, I3⟩ q3
    · rcases List.mem_append.mp hp with z | z
      · exact gc.ip p z
      · exact fun e => (fok p.1 (of_pinsAt z).1).2.2.2.2.2 e.symm
    · obtain ⟨acc4, cc4, r4, I4⟩ := G4
      refine seg_again rfl (ih (i + 1) n' ys' s₀' s4 σ4 H4 (by omega) lt hn' w4 ⟨acc4, cc4, r4, I4.pins_of fun p hp => ?_⟩ (T.keep _ _ _ st2 fun b hb o eo => ?_) fun b hb => ?_)
      · rcases List.mem_cons.mp hp with z | z
        · rw [z]
          exact I4.pin _ (List.mem_append_right _ List.mem_cons_self)
        · exact I4.pin p (List.mem_append_right _ (List.mem_cons_of_mem _ (List.mem_append_left _ z)))
      · exact (I4.pin (b, o) (List.mem_append_right _ (List.mem_cons_of_mem _ (List.mem_append_right _ (mem_pinsAt hb eo))))).1
      · obtain ⟨o, eo, _⟩ := T.obj _ _ st2 b hb
        exact (I4.pin (b, o) (List.mem_append_right _ (List.mem_cons_of_mem _ (List.mem_append_right _ (mem_pinsAt hb eo))))).2.1
/-- two clauses -/
abbrev gEx2 (elt tg iter tg1 iter1 : Expr) (scope : Scope) (pos : Pos) : Expr := .GeneratorExp elt [⟨tg, iter, [], 0⟩, ⟨tg1, iter1, [], 0⟩] scope pos
abbrev emitS (elt : Expr) (env : Env) : Sem Unit := do let v ← eval elt env; standAt elt.pos; let _ ← yieldOut env v
abbrev inS (e iter1 : Expr) (env : Env) : Sem Unit := do
  let x ← eval iter1 env
  standAt iter1.pos
  let x ← foldedSetIterable iter1 env x
  let _ ← runOwn (.compStart e 1 (← holding [x] (pyIter x)) .none env) env
theorem den_in {elt tg iter tg1 iter1 : Expr} {scope : Scope} {pos : Pos} {it : Addr} : (model X.prog X.w).den (.compLoop (gEx2 elt tg iter tg1 iter1 scope pos) 1 (.ref it) .none X.env) = Sem.onRaise (standAt iter1.pos >>= fun _ => pyNext (.ref it) >>= fun r => match r with
      | none => pure (.done .next)
      | some v => letOwnedTupleGo tg1 (.ref it) v >>= fun _ => assign tg1 X.env v >>= fun _ => emitS elt X.env >>= fun _ => again (.compLoop (gEx2 elt tg iter tg1 iter1 scope pos) 1 (.ref it) .none X.env)) (fun x => do noteFrame x X.env; theTreesLotGoes x) := by
  rfl
theorem den_out {elt tg iter tg1 iter1 : Expr} {scope : Scope} {pos : Pos} {it : Addr} : (model X.prog X.w).den (.compLoop (gEx2 elt tg iter tg1 iter1 scope pos) 0 (.ref it) .none X.env) = Sem.onRaise (standAt iter.pos >>= fun _ => pyNext (.ref it) >>= fun r => match r with
      | none => pure (.done .next)
      | some v => letOwnedTupleGo tg (.ref it) v >>= fun _ => assign tg X.env v >>= fun _ => inS (gEx2 elt tg iter tg1 iter1 scope pos) iter1 X.env >>= fun _ => again (.compLoop (gEx2 elt tg iter tg1 iter1 scope pos) 0 (.ref it) .none X.env)) (leaving X.env) := by
  have h : ∀ f : Unit → Sem PySem.Fin, (inS (gEx2 elt tg iter tg1 iter1 scope pos) iter1 X.env >>= f) = (eval iter1 X.env >>= fun x => standAt iter1.pos >>= fun _ => foldedSetIterable iter1 X.env x >>= fun x => holding [x] (pyIter x) >>= fun v =>
      runOwn (.compStart (gEx2 elt tg iter tg1 iter1 scope pos) 1 v .none X.env) X.env >>= fun _ => f ()) := fun f => by
    simp only [inS, bind_assoc, pure_bind]
  simp only [h]
  rfl
theorem den_one {elt tg iter : Expr} {scope : Scope} {pos : Pos} {it : Addr} : (model X.prog X.w).den (.compLoop (.GeneratorExp elt [⟨tg, iter, [], 0⟩] scope pos) 0 (.ref it) .none X.env) = Sem.onRaise (standAt iter.pos >>= fun _ => pyNext (.ref it) >>= fun r => match r with
      | none => pure (.done .next)
      | some v => letOwnedTupleGo tg (.ref it) v >>= fun _ => assign tg X.env v >>= fun _ => emitS elt X.env >>= fun _ => again (.compLoop (.GeneratorExp elt [⟨tg, iter, [], 0⟩] scope pos) 0 (.ref it) .none X.env)) (leaving X.env) := by
  rfl
def tIn (wi : TI) (g : TG) (tb : TB) : TB := fun ys σ H N => wi σ H fun J H1 => tLoop J g tb ys σ H1 N
theorem start_in {elt tg iter tg1 iter1 : Expr} {scope : Scope} {pos : Pos} {it : Addr} {A : Around} {R : GenEnd} {Y : Protocol} {n : Nat} {s₀ s : Shared} {fs : List Frame} {J : It} {fp : List Addr} {tn : Nat → Heap → Prop} (T : Turn X.prog X.w X.K tg1 J fp it tn) (st : tn 0 s.heap)
    (h : Seg (model X.prog X.w) A R Y n s₀ (.compLoop (gEx2 elt tg iter tg1 iter1 scope pos) 1 (.ref it) .none X.env) ((model X.prog X.w).den (.compLoop (gEx2 elt tg iter tg1 iter1 scope pos) 1 (.ref it) .none X.env)) fs s) :
    Seg (model X.prog X.w) A R Y n s₀ (.compStart (gEx2 elt tg iter tg1 iter1 scope pos) 1 (.ref it) .none X.env) ((model X.prog X.w).den (.compStart (gEx2 elt tg iter tg1 iter1 scope pos) 1 (.ref it) .none X.env)) fs s := by
  show Seg _ A _ _ _ s₀ _ ((compStart (gEx2 elt tg iter tg1 iter1 scope pos) 1 (.ref it) .none X.env).onRaise (fun x => do noteFrame x X.env; standAt theWindowsPlace)) fs s
  unfold compStart
  rw [Sem.onRaise_eq_wrap]
  show Seg _ A _ _ _ s₀ _ ((ask >>= _).wrap _ _ _ _) fs s
  refine seg_bind_wrap (wpAny_askSetting ?_)
  split
  · exact seg_again rfl h
  · refine seg_bind_wrap (wpAny_rule ?_)
    first
    | exact seg_bind_wrap (wpAny_standAt (seg_bind_wrap (T.self _ 0 s _ _ st (seg_again rfl h))))
    | (show Seg _ A _ _ _ s₀ _ ((standAt iter1.pos >>= _).wrap _ _ _ _) fs s
       exact seg_bind_wrap (wpAny_standAt (seg_bind_wrap (T.self _ 0 s _ _ st (seg_again rfl h)))))
theorem gb_in {elt tg iter tg1 iter1 : Expr} {scope : Scope} {pos : Pos} {wi : TI} {g : TG} {tb : TB} (hx : ∀ e s, ¬ X.xe e s) (hc : X.calm = true) (hi : PI X tg1 iter1 wi) (hg : PG X tg1 g) (hb : GB X (emitS elt X.env) tb) (hs : ∀ x, foldedSetIterable iter1 X.env x = pure x) :
    GB X (inS (gEx2 elt tg iter tg1 iter1 scope pos) iter1 X.env) (tIn wi g tb) := by
  refine ⟨fun A S ip R n ys s₀ c fs K J gd lv s σ H N gc hn k hI ht => ?_⟩
  obtain ⟨acc, cc, r, I⟩ := hI
  refine seg_bind_wrap ?_
  rw [gc.over]
  refine wpAny_mono (hi.run _ s σ H _ I ht) (fun v s1 h1 => ?_) fun _ _ z => (hx _ _ z).elim
  refine seg_bind_wrap (wpAny_standAt ?_)
  refine seg_bind_wrap (wpAny_of_eq (hs v) ?_)
  refine seg_bind_wrap (wpAny_holding ?_)
  rw [gc.over]
  refine wpAny_mono h1 (fun itv s2 h2 => ?_) fun _ _ z => (hx _ _ z).elim
  obtain ⟨it, fp, tn, J1, H2, rfl, I2, T, st2, f2, L, W, w0, step, last⟩ := h2
  refine seg_call fun p => ?_
  have gl := fun (kk : Result → Sem PySem.Fin) => gc_loop (k := kk) (c' := .compLoop (gEx2 elt tg iter tg1 iter1 scope pos) 1 (.ref it) .none X.env) (l := lv []) (kp := []) (p := p) gc rfl rfl
  refine start_in T st2 ?_
  exact cloop (iter := iter1) hx hc T hg hb den_in (gl _) (fun b hb => fp_st (f2 b hb)) step last (fun n' ys' s₀' s' σ' H' hn' G' q' => seg_leaf (.ok .next) (k n' ys' s₀' s' σ' H' hn' G' q')) L 0 n ys s₀ s2 σ H2 rfl (Nat.zero_le _) hn w0 ⟨acc, cc, r, I2⟩ st2 fun b hb => (f2 b hb).1
end
end Lt

set_option Elab.async false
set_option linter.all false
set_option maxRecDepth 100000
set_option maxHeartbeats 4000000
/-! A generator expression is made: one clause or more. tuple(g). -/
namespace Lt
open PySem PySem.Spec PyProof.Rows L2 GenW
abbrev gExM (elt tg iter : Expr) (rest : List Comprehension) (scope : Scope) (pos : Pos) : Expr := .GeneratorExp elt (⟨tg, iter, [], 0⟩ :: rest) scope pos
section
variable {M : Model} {A : Around} {E : Value → Shared → Prop} {s : Shared}
theorem eval_many (elt tg iter : Expr) (rest : List Comprehension) (scope : Scope) (pos : Pos) (env : Env) (hco : scope.isCoroutine = false) :
    eval (gExM elt tg iter rest scope pos) env = (eval iter env >>= fun x => standAt iter.pos >>= fun _ => genFold iter env x >>= fun x => holding [x] (pyIter x) >>= fun it => enterFrame >>= fun _ => closureFor scope env >>= fun cl =>
      genexprCode env pos (env.qual ++ "<genexpr>") scope >>= fun code => builtinsFor env.globals env.builtins >>= fun bi => newFunctionEnv scope env.globals cl [(".0", it)] (env.qual ++ "<genexpr>.") none code none bi >>= fun cenv =>
      newGenerator (.compStart (gExM elt tg iter rest scope pos) 0 it .none cenv) "<genexpr>" (env.qual ++ "<genexpr>")) := by
  rw [arm_eval_GeneratorExp]
  simp only [hco, Bool.false_eq_true, if_false]
  cases iter <;> rfl
theorem make_many {elt tg iter : Expr} {rest : List Comprehension} {scope : Scope} {env : Env} {pos : Pos} {Q : Value → Shared → Prop} (hco : scope.isCoroutine = false) (hclos : closureFor scope env = pure []) (hcell : ∀ y ∈ scope.names, y.2 ≠ .cell) (h0 : scope.names.lookup (".0" : Str) = some NameKind.local)
    (hkind : scope.kind = .function) (hroom : A.depth < recursionLimit)
    (h : wpAny M A (eval iter env) (fun xv s1 => wpAny M A (pyIter xv) (fun it s2 => s2.heap.NoLimit ∧
      wpAny M A (genexprCode env pos (env.qual ++ "<genexpr>") scope) (fun code s3 => wpAny M A (builtinsFor env.globals env.builtins) (fun bi s4 =>
        ∀ h', h'.Ns s4.heap.objs.size (fun y => if y = ".0" then some it else none) → Heap.SameBut s4.heap.objs.size (s4.heap.push { cls := .type "frame", data := .dict #[] }) h' →
          Q (.ref h'.objs.size) { s4 with
            gens := s4.gens.push (.fresh (.compStart (gExM elt tg iter rest scope pos) 0 it .none (genEnv scope [] s4.heap.objs.size code bi env))),
            toks := s4.toks + 1 + 1 + 1,
            heap := h'.push { cls := .type "generator", data := .fields #[.int s4.gens.size 0, .str "<genexpr>" (s4.toks + 1), .str (env.qual ++ "<genexpr>") (s4.toks + 1 + 1)] } }) E s3) E s2) E s1) E s)
    (hs : ∀ x, genFold iter env x = pure x) : wpAny M A (eval (gExM elt tg iter rest scope pos) env) Q E s := by
  rw [eval_many _ _ _ _ _ _ _ hco, hclos]
  refine wpAny_bind (wpAny_mono h (fun xv s1 h1 => ?_) fun _ _ z => z)
  refine wpAny_bind (wpAny_standAt (wpAny_bind (wpAny_of_eq (hs xv) ?_)))
  refine wpAny_bind (wpAny_holding (wpAny_mono h1 (fun it s2 h2 => ?_) fun _ _ z => z))
  refine wpAny_bind (wpAny_enterFrame h2.1 hroom (wpAny_bind (wpAny_pure ?_)))
  refine wpAny_bind (wpAny_mono h2.2 (fun code s3 h3 => ?_) fun _ _ z => z)
  refine wpAny_bind (wpAny_mono h3 (fun bi s4 h4 => ?_) fun _ _ z => z)
  have own : ∀ y ∈ ([((".0" : Str), it)] : List (Str × Value)), scope.names.lookup y.1 = some NameKind.local := fun y hy => by
    rw [List.mem_singleton.mp hy]
    exact h0
  refine wpAny_bind (wpAny_newFunctionEnv hcell own (fun h' hn' hs' => ?_) hkind)
  have e : (fun y : Str => ([((".0" : Str), it)] : List (Str × Value)).reverse.lookup y) = fun y : Str => if y = (".0" : Str) then some it else none := by
    funext y
    by_cases hy : y = ".0"
    · subst hy
      simp
    · have no : (y == (".0" : Str)) = false := by simpa using hy
      simp [List.lookup, no, hy]
  rw [e] at hn'
  simp only [newGenerator, newFields]
  exact wpAny_bind (wpAny_newGen (wpAny_bind (wpAny_mkText (wpAny_bind (wpAny_mkText (wpAny_newObj_type (h4 h' hn' hs') (by size_fits)))))))
end
structure GenMany (scope : Scope) (xs : List Str) : Prop where
  kind : scope.kind = .function
  co : scope.isCoroutine = false
  own : ∀ y ∈ scope.names, y.2 ≠ .cell ∧ y.2 ≠ .free
  dot : scope.names.lookup (".0" : Str) = some NameKind.local
def gx2 (X : Cx) (A : Around) (xs : List Str) (scope : Scope) (C : Addr) (code : Value) (s4 : Shared) (H4 : Hp) (ex : List Addr) (pn : List (Addr × Obj)) : Cx :=
  { prog := X.prog, w := X.w, K := X.K, mg := X.mg, base := X.base, A := A, N := ".0" :: xs, s_0 := s4, H_0 := H4, env := genEnv scope [] C code builtinsNs X.env, outer := X.stack, stack := genEnv scope [] C code builtinsNs X.env :: X.stack,
    ex := ex, fn := fun _ => true, calm := true, pn := pn, xe := fun _ _ => False }
theorem ov_room {k : Nat} {A : Around} {e : Expr} {it : Value} {cenv : Env} {gs : List Comprehension} {sc : Scope} {p : Pos} (r : Room (k + 1) A) : Room k (A.over (.compLoop (.GeneratorExp e gs sc p) 0 it .none cenv) []) := by
  refine ⟨r.hd, ?_, ?_⟩
  · have := r.dp
    show A.depth + 1 + 3 * k + 5 < _
    omega
  · have := r.un
    rw [ov_units]
    omega
section
variable {X : Cx} {pins : List (Addr × Obj)} {σ : L2.St} {H : Hp} {s : Shared}
/-- the code object, where nothing is new -/
theorem gen_code0 {c P : Addr} {ps : Array Value} {gpos : Pos} {qn : Str} {scope : Scope} {E : Value → Shared → Prop} {B : Value → Addr → Shared → Prop} (inv : Inv X pins σ H s) (TB : GxR.TabB X.base X.mg c P) (hc : X.env.code = .ref c) (hP : H P = some (.tbl ps)) (ht : TriplesOk ps.toList)
    (go : ∀ (code : Value) (h3 : Heap) (tk : Nat) (more : Array Value), Heap.ExtBut P s.heap h3 → s.heap.objs.size ≤ h3.objs.size → h3.get? P = some { cls := .none, data := .fields (ps ++ more) } → TriplesOk (ps ++ more).toList → B code builtinsNs { s with heap := h3, toks := tk }) :
    wpAny (model X.prog X.w) X.A (genexprCode X.env gpos qn scope) (fun code s3 => wpAny (model X.prog X.w) X.A (builtinsFor X.env.globals X.env.builtins) (B code) E s3) E s := by
  have at1 : s.heap.get? P = some (PySem.W.tabObj ps) := inv.hok P _ hP
  have head : PySem.W.CodeHd s.heap c P := TB.code.keeps fun b u e => inv.bk b u e
  have bis : ∀ (code : Value) (h3 : Heap) (tk : Nat), Heap.ExtBut P s.heap h3 → B code builtinsNs { s with heap := h3, toks := tk } →
      wpAny (model X.prog X.w) X.A (builtinsFor X.env.globals X.env.builtins) (B code) E { s with heap := h3, toks := tk } := fun code h3 tk ext b => by
    obtain ⟨bm, ob, b1, b2, _, b4, b5, b6, b7, b8⟩ := TB.bm
    refine wpAny_builtinsFor (m := X.mg) ?_ b1 b2 (ext _ _ b4 (inv.bk _ _ b5)) b6 b7 b8 b
    rw [inv.ok.glob]
    exact (inv.mod.glob.keeps inv.bk).extBut ext TB.gP
  cases found : codeAmong gpos ps.toList with
  | some cv => exact wpAny_genexprCode_hit hc (head.code at1 ht) found (bis cv _ s.toks (.refl _ _) (go cv _ s.toks #[] (.refl _ _) (Nat.le_refl _) (by rw [Array.append_empty]; exact at1) (by rw [Array.append_empty]; exact ht)))
  | none =>
    refine wpAny_genexprCodeX hc (head.code at1 ht) (head.tab at1) found fun c' h3 tk ext ge lt isc _ tab _ => ?_
    obtain ⟨_, _, _, _, _, _, _, _, _, _, _, _, _, _, _, _, _, _, _, tri, _⟩ := isc
    exact bis _ h3 tk ext (go _ h3 tk _ ext (Nat.le_trans ge (Nat.le_of_lt lt)) tab.2 tri)
/-- what a generator expression wants: its first thing walked, the table, then its loop with nothing out -/
def tGen (xs : List Str) (P : Addr) (wi : TI) (g : TG) (tb : TB) : TGen := fun σ H cont => wi σ H fun J H1 => GxR.TabG H1 P ∧ ∀ (I : Addr) (H2 : Hp), GxR.Tabbed P H1 H2 → tLoop J g tb [] (some (.ref I) :: xs.map fun _ => none) H2 fun ys _ H3 => cont ys H3
theorem start_out {X' : Cx} {elt tg iter : Expr} {rest : List Comprehension} {scope : Scope} {pos : Pos} {it : Addr} {A : Around} {R : GenEnd} {Y : Protocol} {n : Nat} {s₀ s : Shared} {J : It} {fp : List Addr} {tn : Nat → Heap → Prop} (T : Turn X'.prog X'.w X'.K tg J fp it tn) (st : tn 0 s.heap)
    (h : Seg (model X'.prog X'.w) A R Y n s₀ (.compLoop (gExM elt tg iter rest scope pos) 0 (.ref it) .none X'.env) ((model X'.prog X'.w).den (.compLoop (gExM elt tg iter rest scope pos) 0 (.ref it) .none X'.env)) [] s) :
    Seg (model X'.prog X'.w) A R Y n s₀ (.compStart (gExM elt tg iter rest scope pos) 0 (.ref it) .none X'.env) ((model X'.prog X'.w).den (.compStart (gExM elt tg iter rest scope pos) 0 (.ref it) .none X'.env)) [] s := by
  show Seg _ A _ _ _ s₀ _ ((compStart (gExM elt tg iter rest scope pos) 0 (.ref it) .none X'.env).onRaise (leaving X'.env)) [] s
  unfold compStart
  rw [Sem.onRaise_eq_wrap]
  show Seg _ A _ _ _ s₀ _ ((ask >>= _).wrap _ _ _ _) [] s
  refine seg_bind_wrap (wpAny_askSetting ?_)
  split
  · exact seg_again rfl h
  · refine seg_bind_wrap (wpAny_rule ?_)
    first
    | exact seg_bind_wrap (wpAny_standAt (seg_bind_wrap (T.self _ 0 s _ _ st (seg_again rfl h))))
    | (show Seg _ A _ _ _ s₀ _ ((standAt iter.pos >>= _).wrap _ _ _ _) [] s
       exact seg_bind_wrap (wpAny_standAt (seg_bind_wrap (T.self _ 0 s _ _ st (seg_again rfl h)))))
theorem pgen_exp {c P : Addr} {elt tg iter : Expr} {rest : List Comprehension} {xs : List Str} {scope : Scope} {gpos : Pos} {wi : TI} {g : TG} {tb : TB} {k j : Nat} {body : Env → Sem Unit} (hr : Room j X.A) (TB : GxR.TabB X.base X.mg c P) (hc : X.env.code = .ref c) (S : GenMany scope xs) (hi : PI X tg iter wi)
    (den : ∀ (X' : Cx) (it : Addr), (model X'.prog X'.w).den (.compLoop (gExM elt tg iter rest scope gpos) 0 (.ref it) .none X'.env) = Sem.onRaise (standAt iter.pos >>= fun _ => pyNext (.ref it) >>= fun r => match r with
      | none => pure (.done .next)
      | some v => letOwnedTupleGo tg (.ref it) v >>= fun _ => assign tg X'.env v >>= fun _ => body X'.env >>= fun _ => again (.compLoop (gExM elt tg iter rest scope gpos) 0 (.ref it) .none X'.env)) (leaving X'.env))
    (hg : ∀ (A : Around) (C : Addr) (code : Value) (s4 : Shared) (H4 : Hp) (ex : List Addr) (pn : List (Addr × Obj)), PG (gx2 X A xs scope C code s4 H4 ex pn) tg g)
    (hb : ∀ (A : Around) (C : Addr) (code : Value) (s4 : Shared) (H4 : Hp) (ex : List Addr) (pn : List (Addr × Obj)), Room k A → GB (gx2 X A xs scope C code s4 H4 ex pn) (body (genEnv scope [] C code builtinsNs X.env)) tb) (hs : ∀ v, genFold iter X.env v = pure v := by intro _; rfl) :
    PGen X (k + 1) (gExM elt tg iter rest scope gpos) (tGen xs P wi g tb) (fun _ _ _ => False) := by
  refine ⟨fun pins s σ H cont inv h => ?_⟩
  have noF : ∀ y ∈ scope.names, y.2 ≠ .free := fun y hy => (S.own y hy).2
  have clo : closureFor scope X.env = pure [] := by
    rw [closure_ok fun y hy e => absurd e (noF y hy), clo_nil _ _ _ noF]
  refine make_many S.co clo (fun y hy => (S.own y hy).1) S.dot S.kind (by have := hr.dp; omega) ?_ hs
  refine thn (hi.run pins s σ H _ inv h) fun xv s1 h1 => thn h1 fun itv s2 h2 => ?_
  obtain ⟨it, fp, tn, J, H1, rfl, inv1, T, st, fok, ⟨tb0, hP, ht⟩, q⟩ := h2
  have at0 : s2.heap.get? P = some { cls := .none, data := .fields tb0 } := inv1.hok P _ hP
  refine ⟨inv1.nolimit, gen_code0 inv1 TB hc hP ht fun code h3 tk more ext big at3 tri => ?_⟩
  intro h' ns same
  have keep3 : ∀ b u, b ≠ P → s2.heap.get? b = some u → h3.get? b = some u := fun b u nb e => ext b u nb e
  have inv4 := GxR.inv_tab (more := more) (h' := h3) (g' := s2.gens) (d' := s2.drawn) (t' := tk) inv1 hP keep3 at3 inv1.bare
  have tab4 : GxR.Tabbed P H1 (upd H1 P (.tbl (tb0 ++ more))) := ⟨⟨_, upd_same, tri⟩, fun b nb => upd_ne nb⟩
  have fpo : ∀ b ∈ fp, ∃ o, s2.heap.get? b = some o ∧ ∀ v, o.data ≠ .cell v := T.obj _ _ st
  have neP : ∀ b ∈ fp, b ≠ P := fun b hb e => by
    have z := (fok b hb).1
    rw [e, hP] at z
    cases z
  have st3 : tn 0 h3 := T.keep _ _ _ st fun b hb o e => keep3 b o (neP b hb) e
  have none3 : ∀ b ∈ fp, upd H1 P (.tbl (tb0 ++ more)) b = none := fun b hb => by
    rw [upd_ne (neP b hb)]
    exact (fok b hb).1
  generalize hH4 : upd H1 P (.tbl (tb0 ++ more)) = H4 at inv4 tab4 none3
  have sz' : h'.objs.size = h3.objs.size + 1 := by
    rw [same.1]
    exact Heap.size_push ..
  have keep' : ∀ b o, h3.get? b = some o → h'.get? b = some o := fun b o e => same.extBut b o (Nat.ne_of_lt (Heap.lt_size e)) (Heap.get?_push_of_some _ e)
  have fplt : ∀ b ∈ fp, b < h3.objs.size := fun b hb => by
    obtain ⟨o, e, _⟩ := fpo b hb
    exact Heap.lt_size (keep3 b o (neP b hb) e)
  have none4 : ∀ b, h3.objs.size ≤ b → H4 b = none := fun b hb => inv4.hok.fresh hb
  have naf : ∀ b, h3.objs.size ≤ b → b ∉ frs X.stack := fun b hb z => by
    obtain ⟨_, o, e, _⟩ := inv4.stack.mem z
    exact absurd (Nat.lt_of_lt_of_le (Heap.lt_size e) hb) (Nat.lt_irrefl _)
  generalize hgo : ({ cls := .type "generator", data := .fields #[.int ((s2.gens.size : Nat) : Int) 0, .str "<genexpr>" (tk + 1), .str (X.env.qual ++ "<genexpr>") (tk + 1 + 1)] } : Obj) = go
  have isg : ∀ hh : Heap, hh.get? h'.objs.size = some go → hh.IsGen h'.objs.size s2.gens.size := fun hh e => ⟨go, _, _, e, by rw [← hgo], by rw [← hgo], by rw [← hgo]⟩
  have hgp : (h'.push go).get? h'.objs.size = some go := Heap.get?_push_size _ (by rw [← hgo]; rfl)
  have up5 : ∀ b o, h3.get? b = some o → (h'.push go).get? b = some o := fun b o e => Heap.get?_push_of_some _ (keep' b o e)
  refine ⟨H4, { s2 with heap := h3, toks := tk }, fp, inv4, fun b hb => ⟨(fok b hb).2.2.2.1, (fok b hb).2.1, (fok b hb).2.2.2.2.1, (fok b hb).2.2.2.2.2⟩, h'.objs.size, s2.gens.size, _, rfl, ?_, ?_, isg _ hgp, Array.getElem?_push_size .., rfl, inv1.bare.push rfl, ?_, up5, ?_⟩
  · show h3.objs.size ≤ h'.objs.size
    omega
  · show h'.objs.size < (h'.push go).objs.size
    rw [Heap.size_push]
    exact Nat.lt_succ_self _
  · exact inv4.nolimit.keeps up5
  intro Aw Sx sW hrw hfr hSx hkW hSo hos hba
  have szp : (h'.push go).objs.size = h'.objs.size + 1 := Heap.size_push ..
  have hSz : h'.objs.size < Sx := by
    have z : (h'.push go).objs.size ≤ Sx := hSx
    omega
  have hS3 : h3.objs.size < Sx := by omega
  obtain ⟨cS, heS⟩ := hSo
  have upW : ∀ b o, h3.get? b = some o → sW.heap.get? b = some o := fun b o e => hkW b o (up5 b o e)
  have hea : sW.heap.get? h'.objs.size = some go := hkW _ _ hgp
  obtain ⟨A', eA⟩ : ∃ A' : Around, A' = Aw.over (.compLoop (gExM elt tg iter rest scope gpos) 0 (.ref it) .none (genEnv scope [] h3.objs.size code builtinsNs X.env)) [] := ⟨_, rfl⟩
  have roomA : Room k A' := by rw [eA]; exact ov_room hrw
  have framesA : A'.frames = some (genEnv scope [] h3.objs.size code builtinsNs X.env :: X.stack) := by
    rw [eA]
    exact ov_frames hfr
  obtain ⟨X', eX⟩ : ∃ X' : Cx, X' = gx2 X A' xs scope h3.objs.size code { s2 with heap := h3, toks := tk } H4 fp [(h'.objs.size, go)] := ⟨_, rfl⟩
  have nsW : sW.heap.Ns h3.objs.size (fun y => if y = ".0" then some (.ref it) else none) := by
    obtain ⟨o, es, ep, ho, r⟩ := ns
    exact ⟨o, es, ep, hkW _ _ (Heap.get?_push_of_some _ ho), r⟩
  have invW : Inv X' [(Sx, lstObj #[] cS)] (some (.ref it) :: xs.map fun _ => none) H4 sW := by
    rw [eX]
    have look : ∀ y, ((genEnv scope [] h3.objs.size code builtinsNs X.env).kindOf y = some .cell ∨ (genEnv scope [] h3.objs.size code builtinsNs X.env).kindOf y = some .free) → False := fun y z => by
      rcases z with z | z
      · exact (S.own _ (PySem.mem_of_lookup (show scope.names.lookup y = some .cell from z))).1 rfl
      · exact (S.own _ (PySem.mem_of_lookup (show scope.names.lookup y = some .free from z))).2 rfl
    refine ⟨⟨inv1.ok.mod, S.kind, inv1.ok.glob, rfl, Nat.le_refl _, fun _ _ _ z => (nomatch z), fun y z => (look y z).elim, fun _ _ _ z => (nomatch z), fun _ => roomA.hd, framesA, .inr ⟨rfl, rfl⟩, fun b hb => ?_, inv4.bs, Nat.le_trans inv4.ok.bsz inv4.sz, fun b o e => ?_, fun b hb => ?_, inv4.stack, inv4.stkFree⟩,
      hos, hba, Un.kept upW, ⟨_, nsW, fun i y v h1 h2 h3' => ?_⟩, fun _ _ z => (nomatch z), none4 _ (Nat.le_refl _), fun _ _ z => (nomatch z), fun p hp => ?_, inv4.hok.kept upW, ?_⟩
    · exact ⟨Nat.ne_of_lt (fplt b hb), fun _ _ z => (nomatch z)⟩
    · intro z
      rcases (fok b z).2.2.2.1 with y | y
      · exact inv1.ok.noex b o e y
      · exact absurd (Nat.lt_of_lt_of_le (Heap.lt_size e) (Nat.le_trans inv1.ok.bsz y)) (Nat.lt_irrefl _)
    · intro z
      rcases List.mem_cons.mp (inv1.stkSub b z) with y | y
      · exact (fok b hb).2.1 y
      · exact (fok b hb).2.2.1 y
    · cases i with
      | zero =>
        cases h1
        cases h2
        exact ⟨.ref it, rfl, .inl ⟨S.dot, by simp⟩⟩
      | succ i =>
        rw [List.getElem?_cons_succ, List.getElem?_map] at h2
        cases e : xs[i]? with
        | none => rw [e] at h2; cases h2
        | some z => rw [e] at h2; cases h2
    · rcases List.mem_append.mp hp with z | z
      · rw [show p = (h'.objs.size, go) from List.mem_singleton.mp z]
        refine ⟨hea, none4 _ (by omega), ?_, naf _ (by omega), fun v y => ?_⟩
        · show h'.objs.size ≠ h3.objs.size
          omega
        · rw [← hgo] at y
          cases y
      · rw [show p = (Sx, lstObj #[] cS) from List.mem_singleton.mp z]
        refine ⟨heS, none4 _ (by omega), ?_, naf _ (by omega), fun v y => by cases y⟩
        exact Nat.ne_of_gt hS3
    · show (some (V.ref it) :: xs.map fun _ => (none : Option V)).length = ((".0" : Str) :: xs).length
      simp
  have G0 : GI X' Sx [] [] (some (.ref it) :: xs.map fun _ => none) H4 sW := ⟨#[], cS, .nil, invW⟩
  have gc : GC X' Sx [] Aw (.compLoop (gExM elt tg iter rest scope gpos) 0 (.ref it) .none X'.env) [] id := by
    rw [eX]
    refine ⟨fun p hp => ?_, fun p hp => (nomatch hp), ⟨?_, ?_, fun _ _ z => (nomatch z)⟩, eA.symm, rfl, rfl, rfl⟩
    · rw [List.mem_singleton.mp hp]
      exact Nat.ne_of_lt hSz
    · show h3.objs.size ≤ Sx
      omega
    · exact Nat.ne_of_gt hS3
  have fokX : ∀ b ∈ fp, FpS X' Sx [] b := fun b hb => by
    rw [eX]
    have l := fplt b hb
    refine ⟨Nat.ne_of_lt l, fun z => ?_, .inl hb, fun _ _ z => (nomatch z), fun p hp => ?_, fun z => ?_⟩
    · rcases List.mem_cons.mp (inv1.stkSub b z) with y | y
      · exact (fok b hb).2.1 y
      · exact (fok b hb).2.2.1 y
    · rcases List.mem_append.mp hp with z | z
      · rw [List.mem_singleton.mp z]
        exact Nat.ne_of_gt (Nat.lt_of_lt_of_le l (by omega))
      · cases z
    · exact absurd (Nat.lt_trans l hS3) (by rw [z]; exact Nat.lt_irrefl _)
  have tX : X'.prog = X.prog ∧ X'.w = X.w ∧ X'.K = X.K ∧ X'.calm = true ∧ X'.env = genEnv scope [] h3.objs.size code builtinsNs X.env := by
    rw [eX]
    exact ⟨rfl, rfl, rfl, rfl, rfl⟩
  obtain ⟨L, W, w0, step, last⟩ := q it H4 tab4
  have TX : Turn X'.prog X'.w X'.K tg J fp it tn := by
    rw [tX.1, tX.2.1, tX.2.2.1]
    exact T
  have hxX : ∀ e s, ¬ X'.xe e s := by
    rw [eX]
    exact fun _ _ z => z
  have bX : GB X' (body X'.env) tb := by
    rw [eX]
    exact hb _ _ _ _ _ _ _ roomA
  have gX : PG X' tg g := by
    rw [eX]
    exact hg _ _ _ _ _ _ _
  have pinned : ∀ {ys : List V} {s' : Shared} {σ' : L2.St} {ip : List (Addr × Obj)} {H' : Hp}, GI X' Sx ip ys σ' H' s' → s'.heap.IsGen h'.objs.size s2.gens.size := fun {ys s' σ' ip H'} hI => by
    obtain ⟨acc, cc, _, J⟩ := hI
    rw [eX] at J
    exact isg _ (J.pin (h'.objs.size, go) (List.mem_append_left _ (List.mem_singleton.mpr rfl))).1
  have loop := cloop (iter := iter) (R := fun n s₀ r s' => r = .ok .next ∧ ∃ ys σ' H', n + ys.length = sizeLine ∧ GI X' Sx [] ys σ' H' s' ∧ cont ys H') hxX tX.2.2.2.1 TX gX bX (den X' it) gc fokX step last
    (fun n ys s₀ s' σ' H' hn G' c' => seg_end (.ok .next) ⟨rfl, ys, σ', H', hn, G', c'⟩) L 0 sizeLine [] sW sW _ H4 rfl (Nat.zero_le _) (Nat.add_zero _) w0 G0 (T.keep _ _ _ st3 fun b hb o e => upW b o e) none3
  have run := start_out (X' := X') (s := sW) TX (T.keep _ _ _ st3 fun b hb o e => upW b o e) loop
  rw [tX.1, tX.2.1, tX.2.2.2.2] at run
  refine seg_imp (fun n s₀ r s' hR => ?_) (fun n s₀ v s' kap kap' hkk hY => ?_) sizeLine run
  · obtain ⟨rfl, ys, σ', H', hn, hI, c'⟩ := hR
    obtain ⟨a1, _, _, acc, cc, ra, ea⟩ := hI.at
    obtain ⟨_, _, _, J'⟩ := hI
    rw [eX] at J'
    exact .inl ⟨.inr rfl, H', ys, acc, cc, J'.os, J'.bare, J'.base, J'.hok, a1, ea, ra, by omega, c'⟩
  · obtain ⟨ys, xx, ip, σ', H', hn, h2, hI, h3'⟩ := hY
    obtain ⟨_, _, _, acc, cc, ra, ea⟩ := hI.at
    have hgg := pinned hI
    obtain ⟨_, _, _, J'⟩ := hI
    rw [eX] at J'
    have hsz : acc.size = ys.length := by
      have e1 := ra.length
      have e2 : acc.toList.length = acc.size := by simp
      omega
    exact ⟨J'.os, J'.bare, J'.nolimit, hgg, ⟨acc, cc, ea, by rw [hsz]; exact hn⟩, fun s' z => hkk _ _ (h3' s' z)⟩
end
end Lt

set_option Elab.async false
set_option linter.all false
set_option maxRecDepth 100000
set_option maxHeartbeats 4000000
/-! tuple(g), g a generator expression just made. -/
namespace Lt
open PySem PySem.Spec PyProof.Rows L2 GenW
open Sem (wp)
open AutoSeq1 (wpAny_loadPart')
abbrev NoX : XK := fun _ _ _ => False
theorem noX {P : Program} {w : World} {outer : List Env} {H : Hp} {s s' : Shared} {e : Value} (c : CX P w outer H s NoX e s') : False := by
  obtain ⟨_, _, _, _, _, _, _, _, _, _, _, _, hW⟩ := c
  exact hW
section
variable {P : Program} {w : World} {outer : List Env} {H : Hp} {sc s : Shared} {ex : List Addr} {Q : List V → Hp → Prop} {A : Around} {k : Nat} {u : Value}
theorem collect_made {Q' : List Value → Shared → Prop} {E : Value → Shared → Prop} (hr : Room k A.in1.in1) (hfr : A.frames = some outer) (h : GMade P w k outer H sc ex Q NoX u s)
    (hQ : ∀ (s' : Shared) (acc : Array Value) (H' : Hp) (ys : List V), Vals ys acc.toList → ys.length ≤ sizeLine → s'.os = sc.os → AllBare s'.gens → Un (frs outer) ex H H' sc.heap s'.heap → HOk P w H' s'.heap → Q ys H' → Q' acc.toList s') :
    wpAny (model P w) A (collect u) Q' E s := by
  obtain ⟨a, g, c, rfl, ha1, ha2, hg, hgs, hos, hb, hl, hkp, wake⟩ := h
  have hSa : s.heap.objs.size ≠ a := Nat.ne_of_gt ha2
  have hcl : cStatics < s.heap.objs.size := let ⟨_, hn, _⟩ := hl; hn.lt
  have hSc : s.heap.objs.size ≠ cStatics := Nat.ne_of_gt hcl
  unfold collect
  refine wpAny_bind (wpAny_runValue (codeAny_builtin F.entry_proto_collect ?_))
  rw [Around.under_plainId F.plain_proto_collect _]
  show wpAny _ A.in1 (newList [] >>= fun l => again (.builtin "list.__iadd__" ⟨[l, .ref a], []⟩)) _ _ s
  refine wpAny_bind (wpAny_newObj_type ?_)
  refine wpAny_pure ⟨plainId_quiet F.plain_list_iadd _, codeAny_builtin F.entry_list_iadd ?_⟩
  rw [Around.under_plainId F.plain_list_iadd _]
  have k1 : ∀ b o, s.heap.get? b = some o → (s.heap.push { cls := .type "list", data := .seq ([] : List Value).toArray }).get? b = some o := fun b o e => Heap.get?_push_of_some _ e
  have gty : ∀ {h : Heap}, (∀ b o, s.heap.get? b = some o → h.get? b = some o) → h.IsGen a g := fun {h} q => hg.keeps q
  show wpAny _ A.in1 (Builtin.List.listExtendWith (.ref s.heap.objs.size) (.ref a) (.ref s.heap.objs.size)) _ _ _
  unfold Builtin.List.listExtendWith
  refine wpAny_bind (wpAny_typeOf (Heap.IsGen.typeIs (s := { s with heap := _ }) (gty k1)) ?_)
  have h1 : Builtin.List.listSameRef (.ref s.heap.objs.size) (.ref a) = false := by simp [Builtin.List.listSameRef, hSa]
  have h2 : (Value.type "generator" == Value.type "list") = false := by decide
  have h3 : (Value.type "generator" == Value.type "tuple") = false := by decide
  simp only [h1, h2, h3, Bool.or_false, Bool.false_eq_true, if_false]
  refine wpAny_bind (wpAny_pyIter_gen (s := { s with heap := _ }) (gty k1) ?_)
  refine wpAny_bind (wpAny_holding ?_)
  unfold Builtin.List.listLengthHint
  refine wpAny_bind (wpAny_specialOf (Heap.IsGen.typeIs (s := { s with heap := _ }) (gty k1)) F.gen_no_len ?_)
  show wpAny _ A.in1 (specialOf (Value.ref a) (Str.ofString "__length_hint__") >>= _) _ _ _
  refine wpAny_bind (wpAny_specialOf (Heap.IsGen.typeIs (s := { s with heap := _ }) (gty k1)) F.gen_no_hint ?_)
  refine wpAny_pure ?_
  show wpAny _ A.in1 (rule "list.extend.makes-room" >>= fun _ => Builtin.List.listTouch (.ref s.heap.objs.size) >>= fun _ =>
    again (.builtin "list.extend.loop" ⟨[.ref s.heap.objs.size, .ref a, .ref s.heap.objs.size], []⟩)) _ _ _
  refine wpAny_bind (wpAny_rule ?_)
  have hS1 : (s.heap.push { cls := .type "list", data := .seq ([] : List Value).toArray }).get? s.heap.objs.size = some { cls := .type "list", data := .seq ([] : List Value).toArray } := Heap.get?_push_size _ rfl
  refine wpAny_bind ?_
  show wpAny _ A.in1 (updateSeq s.heap.objs.size (·.push .none) >>= fun _ => updateSeq s.heap.objs.size (·.pop)) _ _ _
  refine wpAny_bind (wpAny_updateSeq hS1 rfl ?_)
  have hS2 := Heap.get?_update_self (Obj.mapSeq (·.push Value.none)) hS1 rfl
  refine wpAny_updateSeq hS2 rfl ?_
  have hS3 := Heap.get?_update_self (Obj.mapSeq (·.pop)) hS2 rfl
  have up : ∀ (h : Heap) (f : Obj → Obj), (∀ b o, s.heap.get? b = some o → h.get? b = some o) → ∀ b o, s.heap.get? b = some o → (h.update s.heap.objs.size f).get? b = some o := fun h f q b o e =>
    (Heap.get?_update_other _ _ (Ne.symm (Nat.ne_of_lt (Heap.lt_size e)))).trans (q b o e)
  have k4 := up _ (Obj.mapSeq (·.pop)) (up _ (Obj.mapSeq (·.push Value.none)) k1)
  refine wpAny_pure ⟨plainId_quiet F.plain_extend_loop _, drain (P := P) (w := w) (outer := outer) (H := H) (sc := sc) (ex := ex) (Q := Q) (EX := NoX) (A := A) (g := g) hr.hd (by have := hr.dp; show A.depth < _; have e : A.in1.in1.depth = A.depth := rfl; omega) hSa hSc
    (fun s' acc c H' ys q1 q2 q3 q4 q5 q6 q7 q8 q9 => ?_) (fun e s' hc => (noX hc).elim) sizeLine _ (gty k4) (hl.keeps k4) ⟨_, hgs, rfl, ?_⟩⟩
  · show wpAny _ A (load s.heap.objs.size >>= _) _ _ s'
    refine wpAny_bind (wpAny_load q1 ?_)
    exact wpAny_pure (hQ s' acc H' ys q2 q3 q4 q5 q6 q7 q9)
  · exact wake _ _ _ hr hfr (Nat.le_refl _) k4 ⟨_, hS3⟩ hos (allBare_setGen (s := { s with heap := _ }) hb rfl)
theorem new_made {Q₁ : Value → Shared → Prop} {E : Value → Shared → Prop} (hr : Room k A.in1.in1.in1) (hfr : A.frames = some outer) (h : GMade P w k outer H sc ex Q NoX u s)
    (hQ : ∀ (s' : Shared) (acc : Array Value) (H' : Hp) (ys : List V), Vals ys acc.toList → ys.length ≤ sizeLine → s'.os = sc.os → AllBare s'.gens → Un (frs outer) ex H H' sc.heap s'.heap → HOk P w H' s'.heap → Q ys H' → Q₁ (.ref s'.heap.objs.size) { s' with heap := s'.heap.push { cls := .type "tuple", data := .seq acc } }) :
    codeAny (model P w) A (.call (.builtin "tuple.__new__") ⟨[.type "tuple", u], []⟩) (wants Q₁ E) s := by
  refine codeAny_of_tree ?_
  show wpAny _ A.in1 (do checkBuiltinCall "tuple.__new__" ⟨[.type "tuple", u], []⟩; again (.builtin "tuple.__new__" ⟨[.type "tuple", u], []⟩)) _ _ s
  refine wpAny_bind (wpAny_of_eq (F.newCall_tuple_1 _) (wpAny_pure ⟨plainId_quiet F.plain_tuple_new _, codeAny_builtin F.entry_tuple_new ?_⟩))
  rw [Around.under_plainId F.plain_tuple_new _]
  have hsub := sub_tuple_self
  have hinit := init_tuple_lookup
  have hmh := madeHere_tuple
  have hTI : s.TypeIs u "generator" := by
    obtain ⟨a, g, c, rfl, _, _, hg, _⟩ := id h
    exact hg.typeIs
  wp_walk using wpAny_typeOf hTI, collect_made hr (show A.in1.frames = some outer from hfr) h
  intro s' acc H' ys h1 h2 h3 h4 h5 h6 h7
  show wpAny _ _ (Builtin.Tuple.tupleExact acc.toList.toArray >>= fun v => ret v) _ _ _
  unfold Builtin.Tuple.tupleExact
  have sz : acc.toList.toArray.size ≤ sizeLine := by
    have e := h1.length
    simp only [Array.toArray_toList]
    have e2 : acc.toList.length = acc.size := by simp
    omega
  refine wpAny_bind (wpAny_newObj_type ?_ sz)
  refine wpAny_pure ?_
  have e : acc.toList.toArray = acc := by simp
  rw [e]
  exact hQ s' acc H' ys h1 h2 h3 h4 h5 h6 h7
theorem tuple_made {Q₁ : Value → Shared → Prop} {E : Value → Shared → Prop} (hr : Room k A.in1.in1.in1.in1) (hfr : A.frames = some outer) (h : GMade P w k outer H sc ex Q NoX u s)
    (hQ : ∀ (s' : Shared) (acc : Array Value) (H' : Hp) (ys : List V), Vals ys acc.toList → ys.length ≤ sizeLine → s'.os = sc.os → AllBare s'.gens → Un (frs outer) ex H H' sc.heap s'.heap → HOk P w H' s'.heap → Q ys H' → Q₁ (.ref s'.heap.objs.size) { s' with heap := s'.heap.push { cls := .type "tuple", data := .seq acc } }) :
    wpAny (model P w) A (call (.type "tuple") [u]) Q₁ E s := by
  refine callType_codes (Q₁ := fun obj s1 => s1.TypeIs obj "tuple" ∧ Q₁ obj s1) F.called_tuple (F.typeCall_tuple_1 _) F.entry_object_init
    (new_made (A := A.in1) hr hfr h fun s' acc H' ys h1 h2 h3 h4 h5 h6 h7 => ⟨⟨_, Heap.get?_push_size _ rfl, rfl⟩, hQ s' acc H' ys h1 h2 h3 h4 h5 h6 h7⟩) fun obj s1 h1 => ?_
  exact ⟨h1.1, F.args_object_init_2 obj _, object_init_meets F.called_tuple.init.lookup F.called_tuple.made (by decide) P w A.in1 _ s1 ⟨h1.1, rfl, h1.2⟩⟩
end
def tTupM (tg : TGen) : TE := fun σ H Q => tg σ H fun out H2 => ∀ p u, H2 p = none → IsFz u out → Q (.ref p) (upd H2 p u)
theorem pe_tupM {X : Cx} {e : Expr} {tg : TGen} {k : Nat} {p pos : Pos} (h : PGen X k e tg NoX) (hr : Room (k + 1) X.A) (hg : Gl X "tuple") (hm : X.mg "tuple" = none) (he : starEach [e] X.env = (false, eval e X.env) :: starEach [] X.env := by rfl) :
    PE X (.Call (.Name "tuple" p) [e] [] pos) (tTupM tg) := by
  have hv : bootBuiltins ("tuple" : Str) = some (.type "tuple") := by decide +kernel
  refine ⟨fun pins s σ H Q inv hq => wpAny_Call_Name_kw (ld_blt inv hg hm hv (PyProof.Rows.callWith_type1 ?_ he (by rfl)))⟩
  rw [he]
  show wpAny _ _ (spliced ((false, _) :: backTo pos (starEach [] X.env))) _ _ s
  refine Calls.spliced_cons (thn (h.run pins s σ H _ inv hq) fun u s1 ⟨H1, sc, ex, I1, hex, hG⟩ => ?_)
  refine Calls.spliced_nil ?_
  refine tuple_made ⟨hr.hd, ?_, ?_⟩ I1.ok.frames hG fun s' acc H' ys h1 h2 h3 h4 h5 h6 h7 => ?_
  · have := hr.dp
    show X.A.depth + 3 * k + 5 < _
    omega
  · have := hr.un
    show X.A.units + 1 + 1 + 1 + 1 + 16 * k + 200 < _
    omega
  · have inv2 : Inv X pins σ H' s' := I1.call' (ch := ex) h3 h5 h6 h4 hex
    have e : acc = acc.toList.toArray := by simp
    rw [e]
    exact laid_fz (s := s') inv2 h1 h2 h7
end Lt

set_option Elab.async false
set_option linter.all false
set_option maxRecDepth 100000
set_option maxHeartbeats 4000000
/-! slices and sums of tuples whose kind is known: of the same kind again. -/
namespace Lt
open PySem PySem.Spec PyProof.Rows L2
section
variable {X : Cx}
def rSlY : V → Option Int → Option Int → Hp → VK → Prop := fun x lo hi H Q => ∃ (a : Addr) (xs : List V), x = .ref a ∧ TpO H a xs ∧ ∀ (c : Addr) (H2 : Hp), Same H H2 → TpO H2 c (cutV xs lo hi) → Q (.ref c) H2
theorem sl_tupY : SlR X rSlY := by
  rintro pins s σ H _ v vl vu lo hi sl Q inv rx hs pl pu ⟨a, xs, rfl, ha, q⟩
  by_cases hw : HT.sIx xs.length 0 lo = 0 ∧ HT.sIx xs.length xs.length hi = xs.length
  · exact sl_tupA pins s σ H _ v vl vu lo hi sl Q inv rx hs pl pu ⟨a, xs, rfl, ha.sqt, fun _ => q a H (fun _ _ h => h) (by rw [cut_all hw]; exact ha), fun z => absurd hw z⟩
  · cases rx
    obtain ⟨its, vals, tup, fit⟩ := inv.tuple (ha.sqt (K := X.K))
    have len : its.toArray.size = xs.length := by rw [List.size_toArray]; exact vals.length.symm
    refine ⟨"tuple", _, PyProof.Rows.slot_tuple_getitem.lookup, tup.typeIs, HT.getItem_tuple_cut tup hs pl pu (by rw [len]; exact hw) ?_ (by rw [len]; exact fit)⟩
    rw [len]
    exact laid_fz (s := s) inv ((vals.drop (HT.sIx xs.length 0 lo)).take (HT.sIx xs.length xs.length hi - HT.sIx xs.length 0 lo)) (Nat.le_trans (cutV_length xs lo hi) fit) fun p u hp hu => q p _ (same_new hp u) (TpO.new hu)
def rCatY : R2 := fun x y H Q => ∃ (a b : Addr) (xs ys : List V), x = .ref a ∧ y = .ref b ∧ TpO H a xs ∧ TpO H b ys ∧ xs.length + ys.length ≤ sizeLine ∧ ∀ (c : Addr) (H2 : Hp), Same H H2 → TpO H2 c (xs ++ ys) → Q (.ref c) H2
theorem op_catY : OpR X (binaryOp .Add) rCatY := by
  rintro pins s σ H _ _ v u Q inv rx ry ⟨a, b, xs, ys, rfl, rfl, ha, hb, fit, q⟩
  by_cases e : xs = []
  · subst e
    cases rx
    cases ry
    obtain ⟨its, r1, p1, _⟩ := inv.tuple (ha.sqt (K := X.K))
    obtain ⟨its2, r2, p2, _⟩ := inv.tuple (hb.sqt (K := X.K))
    cases r1
    exact cat_tup0 p1 p2 ⟨.ref b, H, inv, rfl, q b H (fun _ _ h => h) hb⟩
  · exact op_catZ pins s σ H _ _ v u Q inv rx ry ⟨a, b, xs, ys, rfl, rfl, ha.sqt, hb.sqt, e, fit, fun z => q a H (fun _ _ h => h) (by rw [z, List.append_nil]; exact ha), fun _ p w hp hw => q p _ (same_new hp w) (TpO.new hw)⟩
end
theorem cut_mid {xs : List V} {i j : Nat} {y z : Int} (ey : y = (i : Int)) (ez : z = (j : Int)) (hi : i ≤ xs.length) (hj : j ≤ xs.length) : cutV xs (some y) (some z) = (xs.drop i).take (j - i) := by
  rw [ey, ez]
  unfold cutV
  rw [HT.sIx_nat, HT.sIx_nat, Nat.min_eq_left hi, Nat.min_eq_left hj]
end Lt

set_option Elab.async false
set_option linter.all false
set_option maxRecDepth 100000
set_option maxHeartbeats 4000000
/-! sorted(xs), xs a list of tuples of ints and texts, of any length: over the library's sorting under an order. -/
namespace Lt
open PySem PySem.Spec PyProof.Rows L2
/-! ### the order of such tuples -/
def ltKey : Key → Key → Bool
  | .inl i, .inl j => decide (i < j)
  | .inr a, .inr b => decide (ltS a b)
  | .inl _, .inr _ => true
  | .inr _, .inl _ => false
theorem ltKey_asym : ∀ {a b : Key}, ltKey a b = true → ltKey b a = false
  | .inl i, .inl j, h => decide_eq_false (by have := of_decide_eq_true h; omega)
  | .inr a, .inr b, h => decide_eq_false (ltS_asymm (of_decide_eq_true h))
  | .inl _, .inr _, _ => rfl
  | .inr _, .inl _, h => nomatch h
theorem ltKey_tri : ∀ {a b : Key}, ltKey a b = false → ltKey b a = false → a = b
  | .inl i, .inl j, h1, h2 => by
    have a1 := of_decide_eq_false h1
    have a2 := of_decide_eq_false h2
    rw [show i = j by omega]
  | .inr a, .inr b, h1, h2 => by rw [ltS_tri (of_decide_eq_false h1) (of_decide_eq_false h2)]
  | .inl _, .inr _, h, _ => nomatch h
  | .inr _, .inl _, _, h => nomatch h
theorem ltKey_trans : ∀ {a b c : Key}, ltKey a b = true → ltKey b c = true → ltKey a c = true
  | .inl i, .inl j, .inl k, h1, h2 => decide_eq_true (by have := of_decide_eq_true h1; have := of_decide_eq_true h2; omega)
  | .inr a, .inr b, .inr c, h1, h2 => decide_eq_true (List.lt_trans (of_decide_eq_true h1) (of_decide_eq_true h2))
  | .inl _, .inl _, .inr _, _, _ => rfl
  | .inl _, .inr _, .inr _, _, _ => rfl
  | .inl _, .inr _, .inl _, _, h => nomatch h
  | .inr _, .inl _, _, h, _ => nomatch h
  | .inr _, .inr _, .inl _, _, h => nomatch h
theorem ltKey_irr (a : Key) : ltKey a a = false := by
  cases h : ltKey a a with
  | false => rfl
  | true => rw [ltKey_asym h] at h; exact h.symm
def lexK : List Key → List Key → Bool
  | [], [] => false
  | [], _ :: _ => true
  | _ :: _, [] => false
  | a :: r, b :: t => if a = b then lexK r t else ltKey a b
theorem lexK_asym : ∀ {l m : List Key}, lexK l m = true → lexK m l = false
  | [], [], h => nomatch h
  | [], _ :: _, _ => rfl
  | _ :: _, [], h => nomatch h
  | a :: r, b :: t, h => by
    unfold lexK at h ⊢
    by_cases e : a = b
    · rw [if_pos e] at h
      rw [if_pos e.symm]
      exact lexK_asym h
    · rw [if_neg e] at h
      rw [if_neg fun z => e z.symm]
      exact ltKey_asym h
theorem lexK_tri : ∀ {l m : List Key}, lexK l m = false → lexK m l = false → l = m
  | [], [], _, _ => rfl
  | [], _ :: _, h, _ => nomatch h
  | _ :: _, [], _, h => nomatch h
  | a :: r, b :: t, h1, h2 => by
    unfold lexK at h1 h2
    by_cases e : a = b
    · rw [if_pos e] at h1
      rw [if_pos e.symm] at h2
      rw [e, lexK_tri h1 h2]
    · rw [if_neg e] at h1
      rw [if_neg fun z => e z.symm] at h2
      exact absurd (ltKey_tri h1 h2) e
theorem lexK_trans : ∀ {l m n : List Key}, lexK l m = true → lexK m n = true → lexK l n = true
  | [], [], _, h, _ => nomatch h
  | [], _ :: _, [], _, h => nomatch h
  | [], _ :: _, _ :: _, _, _ => rfl
  | _ :: _, [], _, h, _ => nomatch h
  | _ :: _, _ :: _, [], _, h => nomatch h
  | a :: r, b :: t, c :: u, h1, h2 => by
    unfold lexK at h1 h2 ⊢
    by_cases e : a = b
    · rw [if_pos e] at h1
      by_cases e2 : b = c
      · rw [if_pos e2] at h2
        rw [if_pos (e.trans e2)]
        exact lexK_trans h1 h2
      · rw [if_neg e2] at h2
        rw [e, if_neg e2]
        exact h2
    · rw [if_neg e] at h1
      by_cases e2 : b = c
      · rw [← e2, if_neg e]
        exact h1
      · rw [if_neg e2] at h2
        have h3 := ltKey_trans h1 h2
        have ne : a ≠ c := fun z => by
          rw [z, ltKey_irr] at h3
          cases h3
        rw [if_neg ne]
        exact h3
theorem lexK_swo {α : Type} (k : α → List Key) : SrtO.Swo fun x y => lexK (k x) (k y) := by
  refine ⟨fun x y h => lexK_asym h, fun x y z h1 h2 => ?_⟩
  cases h : lexK (k z) (k x) with
  | false => rfl
  | true =>
    exfalso
    cases h3 : lexK (k x) (k y) with
    | true =>
      rw [lexK_trans h h3] at h2
      cases h2
    | false =>
      rw [lexK_tri h3 h1] at h
      rw [h] at h2
      cases h2
/-- at each place of the same sort -/
def AlikeK : List Key → List Key → Prop
  | a :: r, b :: t => (a.isLeft = b.isLeft) ∧ AlikeK r t
  | _, _ => True
/-! ### the comparison -/
theorem eqb_key (i j : Int) : (i == j) = decide (i = j) := rfl
section
variable {prog : Program} {w : World} {A : Around} {s : Shared}
/-- these values are these keys -/
inductive KeyVs : List Key → List Value → Prop
  | nil : KeyVs [] []
  | int {i : Int} {t : Tok} {ks us} : KeyVs ks us → KeyVs (.inl i :: ks) (.int i t :: us)
  | str {z : Str} {t : Tok} {ks us} : KeyVs ks us → KeyVs (.inr z :: ks) (.str z t :: us)
theorem KeyVs.len : ∀ {ks us}, KeyVs ks us → us.length = ks.length
  | _, _, .nil => rfl
  | _, _, .int h => congrArg (· + 1) h.len
  | _, _, .str h => congrArg (· + 1) h.len
theorem oneLt_is (c : Bool) {a b : Int} {t u : Tok} {Q : Bool → Shared → Prop} (h : Q (decide (a < b)) s) : wpAny (model prog w) A (oneLt' c (.int a t) (.int b u)) Q (fun _ _ => False) s := by
  cases c with
  | true => exact oneLt_int h
  | false => exact PySem.W.kat_one _ _ (PyProof.Rows.lt_int h)
theorem oneLt_strs (c : Bool) {a b : Str} {t u : Tok} {Q : Bool → Shared → Prop} (h : Q (decide (ltS a b)) s) : wpAny (model prog w) A (oneLt' c (.str a t) (.str b u)) Q (fun _ _ => False) s := by
  cases c with
  | true => exact oneLt_str h
  | false => exact PySem.W.kat_one _ _ (lt_str h)
theorem lex_run (b : Bool) : ∀ {ks ms : List Key} {us vs : List Value} (i : Nat) (fin : Bool), KeyVs ks us → KeyVs ms vs → AlikeK ks ms → ks.length = ms.length → fin = false →
    PySem.W.KatLex prog w A b fin (fun r s' => s' = s ∧ r = lexK ks ms) (us.zip vs) i s
  | _, _, _, _, i, fin, .nil, .nil, _, _, e => ⟨rfl, e⟩
  | _, _, _, _, i, fin, .nil, .int _, _, l, _ => nomatch l
  | _, _, _, _, i, fin, .nil, .str _, _, l, _ => nomatch l
  | _, _, _, _, i, fin, .int _, .nil, _, l, _ => nomatch l
  | _, _, _, _, i, fin, .str _, .nil, _, l, _ => nomatch l
  | _, _, _, _, i, fin, .int _, .str _, al, _, _ => nomatch al.1
  | _, _, _, _, i, fin, .str _, .int _, al, _, _ => nomatch al.1
  | _, _, _, _, i, fin, @KeyVs.int x t ks us h1, @KeyVs.int y u ms vs h2, al, l, e => by
    refine PySem.W.kat_cons (SeqAt.EqAt.int_int x t y u prog w _ _ (PySem.W.kat_go (fun e1 => ?_) (fun e1 => ?_)))
    · have exy : x = y := by simpa using e1
      have ih := lex_run b (i + 1) fin h1 h2 al.2 (Nat.succ.inj l) e
      have el : lexK (Sum.inl x :: ks) (Sum.inl y :: ms) = lexK ks ms := by
        show (if _ then _ else _) = _
        rw [if_pos (by rw [exy])]
      rw [el]
      exact PySem.W.kat_yes ih
    · have nxy : ¬ x = y := by simpa using e1
      refine PySem.W.kat_no (oneLt_is _ ⟨rfl, ?_⟩)
      show decide (x < y) = if _ then _ else _
      rw [if_neg fun z => nxy (Sum.inl.inj z)]
      rfl
  | _, _, _, _, i, fin, @KeyVs.str x t ks us h1, @KeyVs.str y u ms vs h2, al, l, e => by
    refine PySem.W.kat_cons (SeqAt.EqAt.str_str x t y u prog w _ _ (PySem.W.kat_go (fun e1 => ?_) (fun e1 => ?_)))
    · have exy : x = y := by simpa using e1
      have ih := lex_run b (i + 1) fin h1 h2 al.2 (Nat.succ.inj l) e
      have el : lexK (Sum.inr x :: ks) (Sum.inr y :: ms) = lexK ks ms := by
        show (if _ then _ else _) = _
        rw [if_pos (by rw [exy])]
      rw [el]
      exact PySem.W.kat_yes ih
    · have nxy : ¬ x = y := by simpa using e1
      refine PySem.W.kat_no (oneLt_strs _ ⟨rfl, ?_⟩)
      show decide (ltS x y) = if _ then _ else _
      rw [if_neg fun z => nxy (Sum.inr.inj z)]
      rfl
/-- a tuple of these keys -/
def TupK (h : Heap) (v : Value) (ks : List Key) : Prop := ∃ (a : Addr) (o : Obj) (us : List Value) (n : Nat), v = .ref a ∧ h.get? a = some o ∧ o.cls = .type "tuple" ∧ o.data = .seq us.toArray n ∧ KeyVs ks us
theorem TupK.keeps {h h' : Heap} {v : Value} {ks : List Key} (x : TupK h v ks) (k : ∀ b o, h.get? b = some o → o.cls = .type "tuple" → h'.get? b = some o) : TupK h' v ks := by
  obtain ⟨a, o, us, n, e, ho, hc, r⟩ := x
  exact ⟨a, o, us, n, e, k a o ho hc, hc, r⟩
theorem tup_cmp {vs : List Value} {k : Value → List Key} (hp : ∀ v ∈ vs, TupK s.heap v (k v)) (al : ∀ v ∈ vs, ∀ u ∈ vs, AlikeK (k v) (k u) ∧ (k v).length = (k u).length) :
    SrtO.Cmp prog w A s (tuples' true) (fun p => p.1 ∈ vs) (SrtO.lt2 fun v u => lexK (k v) (k u)) := by
  intro p q hm hm'
  show wpAny (model prog w) A (keyLt' (tuples' true) p.1 q.1) (fun r s' => s' = s ∧ r = lexK (k p.1) (k q.1)) (fun _ _ => False) s
  obtain ⟨a, o, us, n, e, ho, _, hd, h1⟩ := hp _ hm
  obtain ⟨a', o', us', n', e', ho', _, hd', h2⟩ := hp _ hm'
  have ak := al _ hm _ hm'
  generalize k p.1 = ks at h1 ak ⊢
  generalize k q.1 = ms at h2 ak ⊢
  rw [e, e']
  refine PySem.W.kat_lt ho hd ho' hd' ?_
  have l1 := h1.len
  have l2 := h2.len
  exact lex_run true 0 _ h1 h2 ak.1 ak.2 (by rw [List.size_toArray, List.size_toArray, l1, l2, ak.2]; exact decide_eq_false (Nat.lt_irrefl _))
theorem firstK {h : Heap} : ∀ {vs : List Value} {k : Value → List Key}, (∀ v ∈ vs, TupK h v (k v) ∧ k v ≠ []) → ∃ fs, PySem.W.KatTups h vs fs ∧ fs.length = vs.length ∧ ∀ f ∈ fs, ∃ v ∈ vs, ∃ x r, k v = x :: r ∧ ((∃ i t, x = .inl i ∧ f = .int i t) ∨ ∃ z t, x = .inr z ∧ f = .str z t)
  | [], _, _ => ⟨[], .nil, rfl, fun f hf => nomatch hf⟩
  | v :: vs, k, hp => by
    obtain ⟨fs, h1, h2, h3⟩ := firstK (vs := vs) (k := k) fun u hu => hp u (List.mem_cons_of_mem _ hu)
    obtain ⟨⟨a, o, us, n, e, ho, hc, hd, kv⟩, ne⟩ := hp v (List.mem_cons_self ..)
    have more : ∀ f ∈ fs, ∃ v' ∈ v :: vs, ∃ x r, k v' = x :: r ∧ ((∃ i t, x = .inl i ∧ f = .int i t) ∨ ∃ z t, x = .inr z ∧ f = .str z t) := fun f hf => by
      obtain ⟨v', hv, r⟩ := h3 f hf
      exact ⟨v', List.mem_cons_of_mem _ hv, r⟩
    cases hk : k v with
    | nil => exact absurd hk ne
    | cons x r =>
      rw [hk] at kv
      cases kv with
      | @int i t _ us' kv' =>
        refine ⟨.int i t :: fs, ?_, by rw [List.length_cons, h2, List.length_cons], fun f hf => ?_⟩
        · rw [e]
          exact .cons ho hc hd (by simp) h1
        · rcases List.mem_cons.mp hf with rfl | hf
          · exact ⟨v, List.mem_cons_self .., _, _, hk, .inl ⟨i, t, rfl, rfl⟩⟩
          · exact more f hf
      | @str z t _ us' kv' =>
        refine ⟨.str z t :: fs, ?_, by rw [List.length_cons, h2, List.length_cons], fun f hf => ?_⟩
        · rw [e]
          exact .cons ho hc hd (by simp) h1
        · rcases List.mem_cons.mp hf with rfl | hf
          · exact ⟨v, List.mem_cons_self .., _, _, hk, .inr ⟨z, t, rfl, rfl⟩⟩
          · exact more f hf
theorem tup_sortable {a : Addr} {vs : List Value} {k : Value → List Key} (h0 : 0 < vs.length) (hp : ∀ v ∈ vs, TupK s.heap v (k v) ∧ k v ≠ []) (al : ∀ v ∈ vs, ∀ u ∈ vs, AlikeK (k v) (k u) ∧ (k v).length = (k u).length)
    (ha : ∀ o, s.heap.get? a = some o → o.cls ≠ .type "tuple") : SrtO.SortableO prog w A s a vs fun v u => lexK (k v) (k u) := by
  intro h' keep
  have hp' : ∀ v ∈ vs, TupK h' v (k v) ∧ k v ≠ [] := fun v hm => ⟨(hp v hm).1.keeps fun b o e c => keep b o (fun z => by subst z; exact ha o e c) e, (hp v hm).2⟩
  obtain ⟨fs, h1, h2, h3⟩ := firstK hp'
  refine ⟨tuples' true, fun Q E hq => ?_, tup_cmp (fun v hm => (hp' v hm).1) al⟩
  have sort : ∀ f ∈ fs, ∀ g ∈ fs, (∃ i t j u, f = .int i t ∧ g = .int j u) ∨ ∃ y t z u, f = .str y t ∧ g = .str z u := fun f hf g hg => by
    obtain ⟨v, hv, x, r, e1, c1⟩ := h3 f hf
    obtain ⟨u, hu, y, r', e2, c2⟩ := h3 g hg
    have q := (al v hv u hu).1
    rw [e1, e2] at q
    rcases c1 with ⟨i, t, rfl, rfl⟩ | ⟨z, t, rfl, rfl⟩
    · rcases c2 with ⟨j, t2, rfl, rfl⟩ | ⟨z2, t2, rfl, rfl⟩
      · exact .inl ⟨_, _, _, _, rfl, rfl⟩
      · exact nomatch (show true = false from q.1)
    · rcases c2 with ⟨j, t2, rfl, rfl⟩ | ⟨z2, t2, rfl, rfl⟩
      · exact nomatch (show false = true from q.1)
      · exact .inr ⟨_, _, _, _, rfl, rfl⟩
  cases fs with
  | nil => exact absurd (h2 ▸ h0) (Nat.lt_irrefl _)
  | cons f fr =>
    rcases sort f (List.mem_cons_self ..) f (List.mem_cons_self ..) with ⟨i, t, _, _, ef, _⟩ | ⟨y, t, _, _, ef, _⟩
    · refine PySem.W.kat_kind (T := .type "int") h1 (Nat.succ_pos _) (fun g hm => ?_) (by rfl) ?_
      · rcases sort f (List.mem_cons_self ..) g hm with ⟨_, _, j, u, _, rfl⟩ | ⟨_, _, _, _, e, _⟩
        · exact PySem.W.Looks.now
        · rw [ef] at e
          cases e
      · have e : (Value.type "int" != Value.type "tuple") = true := by first | decide +kernel | rfl | decide
        rw [e]
        exact hq
    · refine PySem.W.kat_kind (T := .type "str") h1 (Nat.succ_pos _) (fun g hm => ?_) (by rfl) ?_
      · rcases sort f (List.mem_cons_self ..) g hm with ⟨_, _, _, _, e, _⟩ | ⟨_, _, j, u, _, rfl⟩
        · rw [ef] at e
          cases e
        · exact PySem.W.Looks.now
      · have e : (Value.type "str" != Value.type "tuple") = true := by first | decide +kernel | rfl | decide
        rw [e]
        exact hq
theorem sorted_tups {E : Value → Shared → Prop} {l : Addr} {vs : List Value} {k : Value → List Key} {Q : Value → Shared → Prop} (hl : s.heap.IsList l vs.toArray) (hz : vs.length ≤ sizeLine) (hp : ∀ v ∈ vs, TupK s.heap v (k v) ∧ k v ≠ [])
    (al : ∀ v ∈ vs, ∀ u ∈ vs, AlikeK (k v) (k u) ∧ (k v).length = (k u).length)
    (h : ∀ (h' : Heap) (d : Addr) (out : List Value), SrtO.Srtd (fun v u => lexK (k v) (k u)) out → SrtO.Stb (fun v u => lexK (k v) (k u)) out vs → (∀ b o, s.heap.get? b = some o → h'.get? b = some o) → s.heap.objs.size ≤ d → (∃ n, h'.get? d = some (seqObj "list" out.toArray n)) → Q (.ref d) { s with heap := h' }) :
    wpAny (model prog w) A (call (.builtin "sorted") [.ref l]) Q E s := by
  refine SrtO.sorted_ord (lexK_swo k) hl hz (fun h2 h₁ a ha kk => tup_sortable (s := { s with heap := h₁ }) (by omega) (fun v hm => ⟨(hp v hm).1.keeps fun b o e _ => (kk b o e).2, (hp v hm).2⟩) al fun o e c => ?_) fun out hs hb => ?_
  · have e' : some o = some (seqObj "list" vs.toArray 0) := e.symm.trans ha
    cases e'
    exact absurd (Value.type.inj c) (by decide)
  · exact h _ _ out hs hb (fun b o e => sortedAll_old e) (Nat.le_succ _) (sortedAll_at s.heap vs out.toArray)
end
/-! ### the rule -/
section
variable {X : Cx}
theorem keyVs_of : ∀ {ks : List Key} {us : List Value}, Vals (ks.map kV) us → KeyVs ks us
  | [], _, .nil => .nil
  | .inl i :: ks, _ :: us, .cons r t => by
    obtain ⟨tk, rfl⟩ := r
    exact .int (keyVs_of t)
  | .inr z :: ks, _ :: us, .cons r t => by
    obtain ⟨tk, rfl⟩ := r
    exact .str (keyVs_of t)
def adr : Value → Addr
  | .ref a => a
  | _ => 0
theorem refs_of : ∀ {ts : List Addr} {us : List Value}, Vals (ts.map V.ref) us → us = ts.map Value.ref
  | [], _, .nil => rfl
  | t :: ts, u :: us, .cons r h => by
    obtain rfl : u = Value.ref t := r
    rw [refs_of h]
    rfl
theorem refs_vals : ∀ ts : List Addr, Vals (ts.map V.ref) (ts.map Value.ref)
  | [] => .nil
  | t :: ts => .cons rfl (refs_vals ts)
/-- sorted(xs): ts the places of the tuples, ks what they hold -/
def rSortK (K : PySem.W.Frag) : List V → Hp → VK → Prop := fun vs H Q => ∃ (a : Addr) (ts : List Addr) (k : Addr → List Key), vs = [V.ref a] ∧ SqL K H a (ts.map V.ref) ∧ (∀ t ∈ ts, SqT K H t ((k t).map kV) ∧ k t ≠ []) ∧
  (∀ t ∈ ts, ∀ u ∈ ts, AlikeK (k t) (k u) ∧ (k t).length = (k u).length) ∧
  ∀ (us : List Addr) (p : Addr), us.Perm ts → (us.Pairwise fun t u => lexK (k u) (k t) = false) → H p = none → Q (.ref p) (upd H p (.lst (us.map V.ref)))
theorem cr_sortK : CallR X (.builtin "sorted") (rSortK X.K) := by
  rintro pins s σ H _ us Q inv rel ⟨a, ts, k, rfl, sq, tup, al, q⟩
  rw [Vals.ref1 rel]
  obtain ⟨its, vals, hl, fit⟩ := inv.list sq
  have eits := refs_of vals
  subst eits
  have sz : (ts.map Value.ref).length ≤ sizeLine := by
    rw [List.length_map] at fit ⊢
    exact fit
  refine sorted_tups (k := fun v => k (adr v)) hl.isList sz (fun v hv => ?_) (fun v hv u hu => ?_) fun h' d out srt stb kp le at1 => ?_
  · obtain ⟨t, ht, rfl⟩ := List.mem_map.mp hv
    obtain ⟨sqt1, ne⟩ := tup t ht
    obtain ⟨us2, vs2, ⟨o, ho, hc, n, hd⟩, _⟩ := inv.tuple sqt1
    exact ⟨⟨t, o, us2, n, rfl, ho, hc, hd, keyVs_of vs2⟩, ne⟩
  · obtain ⟨t, ht, rfl⟩ := List.mem_map.mp hv
    obtain ⟨t2, ht2, rfl⟩ := List.mem_map.mp hu
    exact al t ht t2 ht2
  · have pm : (out.map adr).Perm ts := by
      have z := stb.perm.map adr
      rw [List.map_map, show (adr ∘ Value.ref) = id from rfl, List.map_id] at z
      exact z
    have eo : out = (out.map adr).map Value.ref := by
      have z : ∀ v ∈ out, Value.ref (adr v) = v := fun v hv => by
        obtain ⟨t, _, rfl⟩ := List.mem_map.mp (stb.perm.mem_iff.mp hv)
        rfl
      rw [List.map_map]
      have z2 : out.map (Value.ref ∘ adr) = out.map id := List.map_congr_left z
      rw [z2, List.map_id]
    obtain ⟨n, at1⟩ := at1
    have pw : (out.map adr).Pairwise fun t u => lexK (k u) (k t) = false := List.pairwise_map.mpr srt
    rw [eo] at at1
    generalize out.map adr = us at pm pw at1
    have fitU : (us.map V.ref).length ≤ sizeLine := by
      rw [List.length_map, pm.length_eq, ← List.length_map (f := V.ref)]
      exact fit
    exact ⟨.ref d, upd H d (.lst (us.map V.ref)), inv.laid (t' := s.toks) kp le (show ObjOk X.prog X.w _ _ _ (.lst (us.map V.ref)) from ⟨fitU, _, n, refs_vals us, at1⟩), rfl, q us d pm pw (inv.hok.fresh le)⟩
theorem cSortK {K : PySem.W.Frag} (e : X.K = K) : CallR X (.builtin "sorted") (rSortK K) := by
  subst e
  exact cr_sortK
end
end Lt

set_option Elab.async false
set_option linter.all false
set_option maxRecDepth 100000
set_option maxHeartbeats 4000000
namespace Lt
open PySem PySem.Spec PyProof.Rows L2
section
variable {P : Program} {w : World} {K : PySem.W.Frag} {mg : Str → Option Value} {base : Heap} {X : Cx}
def TpS (K : PySem.W.Frag) (H : Hp) (a : Addr) (xs : List V) : Prop := SqT K H a xs
theorem TpS.sqt {K : PySem.W.Frag} {H : Hp} {a : Addr} {xs : List V} (h : TpS K H a xs) : SqT K H a xs := h
theorem TpS.same {K : PySem.W.Frag} {H H' : Hp} {a : Addr} {xs : List V} (h : TpS K H a xs) (s : Same H H') : TpS K H' a xs := same_tup s h
theorem TpS.but {K : PySem.W.Frag} {T : Addr} {H H' : Hp} {a : Addr} {xs : List V} (h : TpS K H a xs) (s : SameT T H H') (n : ∀ u, H T = some u → (∀ ys, u ≠ .tup ys) ∧ ∀ o ys, u ≠ .frz o (.tup ys)) : TpS K H' a xs := by
  rcases h with (h | ⟨o, h⟩) | h
  · exact .inl (.inl (s _ _ (fun e => (n _ (e ▸ h)).1 _ rfl) h))
  · exact .inl (.inr ⟨o, s _ _ (fun e => (n _ (e ▸ h)).2 _ _ rfl) h⟩)
  · exact .inr h
theorem TpO.tps {K : PySem.W.Frag} {H : Hp} {a : Addr} {xs : List V} (h : TpO H a xs) : TpS K H a xs := h.sqt
def spBehindT (K : PySem.W.Frag) : Sp := fun vs H Q _ => ∃ (p r : Addr) (bs rs : List Str), vs = [.ref p, .ref r] ∧ TpO H p (bs.map V.str) ∧ TpS K H r (rs.map V.str) ∧ bs.length ≤ 1000 ∧ (∀ b ∈ rs, b ∈ bs) ∧
  ∀ (q : Addr) (H' : Hp), Same H H' → TpO H' q ((behindM bs rs).map V.str) → Q (.ref q) H'
def spLiftedT (K : PySem.W.Frag) : Sp := fun vs H Q _ => ∃ (p r : Addr) (bs rs : List Str), vs = [.ref p, .ref r] ∧ TpO H p (bs.map V.str) ∧ TpS K H r (rs.map V.str) ∧ bs.length ≤ 1000 ∧ rs.length ≤ 1000 ∧ (∀ b ∈ rs, b ∈ bs) ∧
  ∀ (l : Addr) (H' : Hp), Same H H' → H l = none → H' l = some (.lst ((liftedM bs rs).map natV)) → Q (.ref l) H'
def spPassT (K : PySem.W.Frag) : Sp := fun vs H Q _ => ∃ (p r : Addr) (bs rs : List Str), vs = [.ref p, .ref r] ∧ TpO H p (bs.map V.str) ∧ TpS K H r (rs.map V.str) ∧ bs.length ≤ 7 ∧ rs.length ≤ 60 ∧ (∀ b ∈ rs, b ∈ bs) ∧
  ∀ (l : Addr) (H' : Hp) (ys : List Str) (xs : List V), Same H H' → H l = none → ys.Perm bs → sortedS ys = true → H' l = some (.lst xs) → DpAll K H' xs ((prs ys ys.length).map (tri (rowsM bs rs))) → Q (.ref l) H'
def spReadT (K : PySem.W.Frag) : Sp := fun vs H Q _ => ∃ (p r : Addr) (bs rs : List Str), vs = [.ref p, .ref r] ∧ (SqL K H p (bs.map V.str) ∨ SqT K H p (bs.map V.str)) ∧ TpS K H r (rs.map V.str) ∧ bs.length ≤ 7 ∧ rs.length ≤ 60 ∧ (∀ b ∈ rs, b ∈ bs) ∧
  ∀ (t a n o : Addr) (H' : Hp) (ts : List Addr), Same H H' → H' t = some (.tup [.ref a, .ref n, .ref o]) → H' a = some (.tup ((behindM bs rs).map V.str)) → H' n = some (.lst ((liftedM bs rs).map natV)) →
    H' o = some (.lst (ts.map V.ref)) → PairsL H' ts (rowsM bs rs) → Q (.ref t) H'
def spTwoT (K : PySem.W.Frag) : Sp := fun vs H Q _ => ∃ (p r : Addr) (bs : List Str) (ts : List Addr) (rows : List (Str × Str)), vs = [.ref p, .ref r] ∧ SqL K H p (bs.map V.str) ∧ bs.length ≤ 7 ∧ (∀ b ∈ bs, PyData.strOk b = true) ∧
  H r = some (.lst (ts.map V.ref)) ∧ PairsL H ts rows ∧ rows.length ≤ 900 ∧ (∀ z ∈ rows, PyData.strOk z.1 = true ∧ PyData.strOk z.2 = true) ∧
  ∀ (l : Addr) (H' : Hp) (ys : List Str) (xs : List V), Same H H' → H l = none → ys.Perm bs → sortedS ys = true → H' l = some (.lst xs) → DpAll K H' xs ((prs ys ys.length).map (tri rows)) → Q (.ref l) H'
structure IsWants (m n : Nat) (ws : List (Str × Nat)) : Prop where
  sub : (ws.map (·.1)).Sublist (books.take m)
  pos : ∀ p ∈ ws, 0 < p.2
  some_ : ws ≠ []
  few : (ws.map (·.2)).sum ≤ n
def WL (H : Hp) (ts : List Addr) (ws : List (Str × Nat)) : Prop := ts.length = ws.length ∧ ∀ (i : Nat) (t : Addr) (p : Str × Nat), ts[i]? = some t → ws[i]? = some p → H t = some (.tup [.str p.1, natV p.2])
theorem WL.move {H H' : Hp} {ts : List Addr} {ws : List (Str × Nat)} (h : WL H ts ws) (k : ∀ t xs, H t = some (.tup xs) → H' t = some (.tup xs)) : WL H' ts ws := ⟨h.1, fun i t p a b => k _ _ (h.2 i t p a b)⟩
theorem WL.snoc {H : Hp} {ts : List Addr} {ws : List (Str × Nat)} {t : Addr} {p : Str × Nat} (h : WL H ts ws) (ht : H t = some (.tup [.str p.1, natV p.2])) : WL H (ts ++ [t]) (ws ++ [p]) := by
  refine ⟨by rw [List.length_append, List.length_append, h.1]; rfl, fun i t' p' a b => ?_⟩
  rcases Nat.lt_or_ge i ts.length with hi | hi
  · rw [List.getElem?_append_left hi] at a
    rw [List.getElem?_append_left (by rw [← h.1]; exact hi)] at b
    exact h.2 i t' p' a b
  · rw [List.getElem?_append_right hi] at a
    rw [List.getElem?_append_right (by rw [← h.1]; exact hi), ← h.1] at b
    cases e : i - ts.length with
    | zero =>
      rw [e] at a b
      cases a
      cases b
      exact ht
    | succ k =>
      rw [e] at a
      cases a
def WAt (H : Hp) (W : Addr) (ws : List (Str × Nat)) : Prop := ∃ ts, TpO H W (ts.map V.ref) ∧ WL H ts ws
theorem WAt.same {H H' : Hp} {W : Addr} {ws : List (Str × Nat)} (h : WAt H W ws) (s : Same H H') : WAt H' W ws := by
  obtain ⟨ts, a, b⟩ := h
  exact ⟨ts, a.same s, b.move fun t xs e => s _ _ e⟩
theorem WAt.sameT {T : Addr} {H H' : Hp} {W : Addr} {ws : List (Str × Nat)} (h : WAt H W ws) {xs : List V} (hT : H T = some (.lst xs)) (s : SameT T H H') : WAt H' W ws := by
  obtain ⟨ts, a, b⟩ := h
  exact ⟨ts, a.sameT s (a.ne hT fun o z => nomatch z), b.move fun t ys e => s _ _ (ne_of e hT fun z => nomatch z) e⟩
theorem sameT_new {T : Addr} {H H' : Hp} {p : Addr} {o : HO} (s : SameT T H H') (h : H p = none) : SameT T H (upd H' p o) := fun b u n q => by
  rw [upd_ne (ne_of_none q h)]
  exact s b u n q
def spWants : Sp := fun vs H Q _ => ∃ (T S : Addr) (ns : List Int) (m n : Nat), vs = [.ref T, .int m, .int n] ∧ Tape H T S ns ∧ 0 < m ∧ m ≤ 7 ∧ 0 < n ∧ n ≤ 1000 ∧
  ∀ (W : Addr) (H' : Hp) (ws : List (Str × Nat)), SameT T H H' → Tape H' T S ns → H W = none → WAt H' W ws → IsWants m n ws → Q (.ref W) H'
def flat : List (Str × Nat) → List Str
  | [] => []
  | p :: r => List.replicate p.2 p.1 ++ flat r
theorem flat_append : ∀ a b : List (Str × Nat), flat (a ++ b) = flat a ++ flat b
  | [], b => rfl
  | p :: r, b => by
    show _ ++ flat (r ++ b) = (_ ++ flat r) ++ flat b
    rw [flat_append r b, List.append_assoc]
theorem flat_len : ∀ ws : List (Str × Nat), (flat ws).length = (ws.map (·.2)).sum
  | [] => rfl
  | p :: r => by
    show (List.replicate p.2 p.1 ++ flat r).length = p.2 + _
    rw [List.length_append, List.length_replicate, flat_len r]
    rfl
theorem flat_mem : ∀ {ws : List (Str × Nat)} {b : Str}, b ∈ flat ws → b ∈ ws.map (·.1)
  | p :: r, b, h => by
    rcases List.mem_append.mp h with h | h
    · rw [(List.mem_replicate.mp h).2]
      exact List.mem_cons_self
    · exact List.mem_cons_of_mem _ (flat_mem h)
theorem mem_flat : ∀ {ws : List (Str × Nat)} {b : Str}, (∀ p ∈ ws, 0 < p.2) → b ∈ ws.map (·.1) → b ∈ flat ws
  | p :: r, b, pos, h => by
    rcases List.mem_cons.mp h with h | h
    · have p0 := pos p List.mem_cons_self
      exact List.mem_append_left _ (List.mem_replicate.mpr ⟨by omega, h⟩)
    · exact List.mem_append_right _ (mem_flat (fun q hq => pos q (List.mem_cons_of_mem _ hq)) h)
theorem flat_take {ws : List (Str × Nat)} (i : Nat) : (flat (ws.take i)).length ≤ (flat ws).length := by
  have e := flat_append (ws.take i) (ws.drop i)
  rw [List.take_append_drop] at e
  rw [e, List.length_append]
  omega
theorem refs_get {ts : List Addr} {i : Nat} {x : V} (h : (ts.map V.ref)[i]? = some x) : ∃ t, ts[i]? = some t ∧ x = .ref t := by
  rw [List.getElem?_map] at h
  cases e : ts[i]? with
  | none =>
    rw [e] at h
    cases h
  | some t =>
    rw [e] at h
    cases h
    exact ⟨t, rfl, rfl⟩
def spDay : Sp := fun vs H Q _ => ∃ (T S W : Addr) (ns : List Int) (ws : List (Str × Nat)), vs = [.ref T, .ref W] ∧ Tape H T S ns ∧ WAt H W ws ∧ ws.length ≤ 7 ∧ (flat ws).length ≤ 100 ∧
  ∀ (D : Addr) (H' : Hp) (rs : List Str), SameT T H H' → Tape H' T S ns → H D = none → TpO H' D (rs.map V.str) → rs.Perm (flat ws) → Q (.ref D) H'
abbrev wnames (ws : List (Str × Nat)) : List Str := ws.map fun x => x.1
theorem merge_has (k : Key) : ∀ (kvs acc : List (Key × V)), (valV (mergeK acc kvs) k).isSome = true ↔ (valV acc k).isSome = true ∨ k ∈ kvs.map Prod.fst
  | [], acc => ⟨fun h => .inl h, fun h => h.elim (fun h => h) fun h => nomatch h⟩
  | x :: r, acc => by
    show (valV (mergeK (putK acc x.1 x.2) r) k).isSome = true ↔ _
    rw [merge_has k r, valV_put, List.map_cons, List.mem_cons]
    by_cases e : k = x.1
    · rw [if_pos e]
      exact ⟨fun _ => .inr (.inl e), fun _ => .inl rfl⟩
    · rw [if_neg e]
      exact ⟨fun h => h.elim .inl fun h => .inr (.inr h), fun h => h.elim .inl fun h => h.elim (fun h => absurd h e) .inr⟩
def wkvs (ws : List (Str × Nat)) : List (Key × V) := ws.map fun p => (Sum.inr p.1, natV p.2)
theorem wkvs_has (ws : List (Str × Nat)) (b : Str) : (valV (mergeK [] (wkvs ws)) (Sum.inr b)).isSome = decide (b ∈ wnames ws) := by
  rw [Bool.eq_iff_iff, merge_has, decide_eq_true_iff]
  unfold wkvs
  rw [List.map_map]
  constructor
  · rintro (h | h)
    · cases h
    · obtain ⟨p, hp, e⟩ := List.mem_map.mp h
      exact List.mem_map.mpr ⟨p, hp, Sum.inr.inj e⟩
  · intro h
    obtain ⟨p, hp, e⟩ := List.mem_map.mp h
    exact .inr (List.mem_map.mpr ⟨p, hp, by show Sum.inr p.1 = _; rw [e]⟩)
theorem nodup_le : ∀ {l m : List Str}, l.Nodup → (∀ z ∈ l, z ∈ m) → l.length ≤ m.length
  | [], m, _, _ => Nat.zero_le _
  | a :: l, m, nd, h => by
    obtain ⟨n1, n2⟩ := List.nodup_cons.mp nd
    have ha := h a List.mem_cons_self
    have z := nodup_le (m := m.erase a) n2 fun z hz => (List.mem_erase_of_ne (a := z) (b := a) fun e : z = a => n1 (e ▸ hz)).mpr (h z (List.mem_cons_of_mem _ hz))
    have z2 := List.length_erase_of_mem ha
    have z3 := List.length_pos_of_mem ha
    rw [List.length_cons]
    omega
theorem cut_any (xs : List V) (j : Nat) : ∃ k, cutV xs none (some (j : Int)) = xs.take k := by
  refine ⟨min j xs.length, ?_⟩
  unfold cutV
  rw [HT.sIx_none, HT.sIx_nat]
  simp
theorem WL.paired {K : PySem.W.Frag} {H : Hp} : ∀ {ts : List Addr} {ws : List (Str × Nat)}, WL H ts ws → Paired (fun p (kv : Key × V) => SqT K H p [kV kv.1, kv.2]) ts (wkvs ws)
  | [], [], _ => .nil
  | [], _ :: _, h => nomatch h.1
  | _ :: _, [], h => nomatch h.1
  | t :: ts, p :: ws, h => .cons (sqt (h.2 0 t p rfl rfl)) (WL.paired (ts := ts) (ws := ws) ⟨by simpa using h.1, fun i t' p' a b => h.2 (i + 1) t' p' (by simpa using a) (by simpa using b)⟩)
theorem cDictT (e : X.K = K) (c : X.calm = true) : CallR X (.type "dict") (rDictT K) := by
  subst e
  exact call_dictT c
def spBelow : Sp := fun vs H Q _ => ∃ (T S W : Addr) (ns : List Int) (ws : List (Str × Nat)), vs = [.ref T, .ref W] ∧ Tape H T S ns ∧ WAt H W ws ∧ (wnames ws).Sublist books ∧
  ∀ (p : Addr) (H' : Hp) (bs : List Str), SameT T H H' → Tape H' T S ns → H p = none → TpO H' p (bs.map V.str) → bs.Nodup → bs.length ≤ 7 → (∀ b ∈ bs, b ∈ books) → (∀ b ∈ wnames ws, b ∈ bs) → Q (.ref p) H'
theorem sum_nat (l : List Nat) : (l.map fun k : Nat => (k : Int)).sum = (l.sum : Int) := by
  induction l with
  | nil => rfl
  | cons a r ih =>
    rw [List.map_cons, List.sum_cons, List.sum_cons, ih]
    omega
theorem lifted_small {bs rs : List Str} (h : ∀ b ∈ rs, b ∈ bs) : (liftedM bs rs).sum ≤ rs.length * bs.length := by
  rw [← rows_count rs h]
  exact rowsM_len rs h
def spFarP (K : PySem.W.Frag) : Sp := fun vs H Q _ => ∃ (p r : Addr) (bs rs : List Str) (d : Int), vs = [.ref p, .ref r, .int d] ∧ TpO H p (bs.map V.str) ∧ TpS K H r (rs.map V.str) ∧ bs.length ≤ 1000 ∧ (∀ b ∈ rs, b ∈ bs) ∧
  ∀ (q : Addr) (H' : Hp), Same H H' → TpO H' q ((if 0 < d then behindM bs rs else bs).map V.str) → Q (.ref q) H'
def spFarL (K : PySem.W.Frag) : Sp := fun vs H Q _ => ∃ (p r : Addr) (bs rs : List Str) (d : Int), vs = [.ref p, .ref r, .int d] ∧ TpO H p (bs.map V.str) ∧ TpS K H r (rs.map V.str) ∧ bs.length ≤ 7 ∧ rs.length ≤ 60 ∧ (∀ b ∈ rs, b ∈ bs) ∧
  ∀ H' : Hp, Same H H' → Q (.int (if d ≤ 0 then 0 else ((liftedM bs rs).sum : Int) + (d - 1) * ((liftedM (behindM bs rs) rs).sum : Int))) H'
theorem wn_len (ws : List (Str × Nat)) : (wnames ws).length = ws.length := List.length_map ..
def spLater (K : PySem.W.Frag) : Sp := fun vs H Q _ => ∃ (W r : Addr) (ws : List (Str × Nat)) (rs : List Str), vs = [.ref W, .ref r] ∧ WAt H W ws ∧ TpS K H r (rs.map V.str) ∧ ws.length ≤ 7 ∧ rs.length ≤ 60 ∧ (∀ b ∈ rs, b ∈ wnames ws) ∧
  ∀ (t a n o : Addr) (H' : Hp) (ts : List Addr), Same H H' → H' t = some (.tup [.ref a, .ref n, .ref o]) → H' a = some (.tup ((behindM (behindM (wnames ws) rs) rs).map V.str)) → H' n = some (.lst ((liftedM (behindM (wnames ws) rs) rs).map natV)) →
    H' o = some (.lst (ts.map V.ref)) → PairsL H' ts (rowsM (behindM (wnames ws) rs) rs) → Q (.ref t) H'
end
end Lt

set_option Elab.async false
set_option linter.all false
set_option maxRecDepth 100000
set_option maxHeartbeats 4000000
namespace Lt
open PySem PySem.Spec PyProof.Rows L2
/-! ### the day of turns: first a reader of each book, then a second one of each that has one .. -/
def turnsM (ws : List (Str × Nat)) : List (Nat × Str) := ws.flatMap fun p => (List.range p.2).map fun t => (t, p.1)
def roundM (ws : List (Str × Nat)) (t : Nat) : List (Nat × Str) := (ws.filter fun p => decide (t < p.2)).map fun p => (t, p.1)
def mostT (ws : List (Str × Nat)) (M : Nat) : List (Nat × Str) := (List.range M).flatMap (roundM ws)
def topW (ws : List (Str × Nat)) : Nat := (ws.map (·.2)).sum
def mostM (ws : List (Str × Nat)) : List Str := (mostT ws (topW ws)).map (·.2)
def tk2 (q : Nat × Str) : List Key := [.inl (q.1 : Int), .inr q.2]
theorem tk2_inj {q r : Nat × Str} (h : tk2 q = tk2 r) : q = r := by
  obtain ⟨a, b⟩ := q
  obtain ⟨c, d⟩ := r
  have h1 := List.cons.inj h
  have h2 := List.cons.inj h1.2
  have e1 : (a : Int) = c := Sum.inl.inj h1.1
  have e2 : b = d := Sum.inr.inj h2.1
  rw [e2, show a = c by omega]
theorem le_top : ∀ {ws : List (Str × Nat)} {p : Str × Nat}, p ∈ ws → p.2 ≤ topW ws
  | q :: ws, p, h => by
    show p.2 ≤ ((q :: ws).map (·.2)).sum
    rw [List.map_cons, List.sum_cons]
    rcases List.mem_cons.mp h with e | h
    · rw [e]
      omega
    · have := le_top h
      unfold topW at this
      omega
theorem fm_append {α β : Type} (f g : α → List β) : ∀ l : List α, (l.flatMap fun x => f x ++ g x).Perm (l.flatMap f ++ l.flatMap g)
  | [] => .nil
  | a :: l => by
    rw [List.flatMap_cons, List.flatMap_cons, List.flatMap_cons, List.append_assoc, List.append_assoc]
    refine List.Perm.append_left _ ?_
    exact ((fm_append f g l).append_left (g a)).trans (List.perm_append_comm_assoc _ _ _)
theorem one_col (x : Str) (n : Nat) : ∀ M : Nat, ((List.range M).flatMap fun t => if t < n then [(t, x)] else []) = (List.range (min n M)).map fun t => (t, x)
  | 0 => by
    rw [Nat.min_zero]
    rfl
  | M + 1 => by
    rw [List.range_succ, List.flatMap_append, one_col x n M]
    show _ ++ ((if M < n then [(M, x)] else []) ++ []) = _
    rw [List.append_nil]
    by_cases h : M < n
    · rw [if_pos h, Nat.min_eq_right (by omega), Nat.min_eq_right (by omega), List.range_succ, List.map_append]
      rfl
    · rw [if_neg h, List.append_nil, Nat.min_eq_left (by omega), Nat.min_eq_left (by omega)]
theorem round_cons (p : Str × Nat) (ws : List (Str × Nat)) (t : Nat) : roundM (p :: ws) t = (if t < p.2 then [(t, p.1)] else []) ++ roundM ws t := by
  unfold roundM
  by_cases h : t < p.2
  · rw [if_pos h, List.filter_cons_of_pos (by simpa using h)]
    rfl
  · rw [if_neg h, List.filter_cons_of_neg (by simpa using h)]
    rfl
theorem most_perm : ∀ (ws : List (Str × Nat)) (M : Nat), (∀ p ∈ ws, p.2 ≤ M) → (mostT ws M).Perm (turnsM ws)
  | [], M, _ => by
    have e : mostT [] M = [] := by
      show (List.range M).flatMap (fun _ => []) = []
      induction M with
      | zero => rfl
      | succ M ih => rw [List.range_succ, List.flatMap_append, ih fun p hp => nomatch hp]; rfl
    rw [e]
    exact .nil
  | p :: ws, M, h => by
    have e : mostT (p :: ws) M = (List.range M).flatMap fun t => (if t < p.2 then [(t, p.1)] else []) ++ roundM ws t := by
      unfold mostT
      congr 1
      funext t
      exact round_cons p ws t
    rw [e]
    refine (fm_append _ _ _).trans ?_
    rw [one_col, Nat.min_eq_left (h p List.mem_cons_self)]
    exact (most_perm ws M fun q hq => h q (List.mem_cons_of_mem _ hq)).append_left _
theorem round_at {ws : List (Str × Nat)} {t : Nat} {q : Nat × Str} (h : q ∈ roundM ws t) : q.1 = t := by
  obtain ⟨p, _, rfl⟩ := List.mem_map.mp h
  rfl
theorem most_at {ws : List (Str × Nat)} {M : Nat} {q : Nat × Str} (h : q ∈ mostT ws M) : q.1 < M := by
  obtain ⟨t, ht, hq⟩ := List.mem_flatMap.mp h
  rw [round_at hq]
  exact List.mem_range.mp ht
theorem lex_far {t u : Nat} {a b : Str} (h : t < u) : lexK (tk2 (u, a)) (tk2 (t, b)) = false := by
  have h1 : lexK (tk2 (t, b)) (tk2 (u, a)) = true := by
    have e : ltKey (.inl (t : Int)) (.inl (u : Int)) = true := decide_eq_true (by omega)
    have ne : ¬ (Sum.inl (t : Int) : Key) = Sum.inl (u : Int) := fun z => by
      have := Sum.inl.inj z
      omega
    show (if (Sum.inl (t : Int) : Key) = Sum.inl (u : Int) then _ else ltKey _ _) = true
    rw [if_neg ne]
    exact e
  exact lexK_asym h1
theorem lex_near {t : Nat} {a b : Str} (h : ltS a b) : lexK (tk2 (t, b)) (tk2 (t, a)) = false := by
  have h1 : lexK (tk2 (t, a)) (tk2 (t, b)) = true := by
    have e : ltKey (.inr a) (.inr b) = true := decide_eq_true h
    have ne : ¬ (Sum.inr a : Key) = Sum.inr b := fun z => ltS_irrefl a (by rw [← Sum.inr.inj z] at h; exact h)
    show (if (Sum.inl (t : Int) : Key) = Sum.inl (t : Int) then (if (Sum.inr a : Key) = Sum.inr b then _ else ltKey _ _) else _) = true
    rw [if_pos rfl, if_neg ne]
    exact e
  exact lexK_asym h1
theorem most_pw {ws : List (Str × Nat)} (so : (wnames ws).Pairwise ltS) : ∀ M : Nat, (mostT ws M).Pairwise fun x y => lexK (tk2 y) (tk2 x) = false
  | 0 => List.Pairwise.nil
  | M + 1 => by
    have e : mostT ws (M + 1) = mostT ws M ++ roundM ws M := by
      unfold mostT
      rw [List.range_succ, List.flatMap_append]
      show _ ++ (roundM ws M ++ []) = _
      rw [List.append_nil]
    rw [e]
    refine List.pairwise_append.mpr ⟨most_pw so M, ?_, fun x hx y hy => ?_⟩
    · unfold roundM
      rw [List.pairwise_map]
      have z : (ws.Pairwise fun p q => ltS p.1 q.1) := List.pairwise_map.mp so
      exact (z.sublist List.filter_sublist).imp fun h => lex_near h
    · obtain ⟨t, a⟩ := x
      obtain ⟨u, b⟩ := y
      have h1 := most_at hx
      have h2 := round_at hy
      exact lex_far (by simp at h1 h2; omega)
theorem turns_one {ws : List (Str × Nat)} (so : (wnames ws).Pairwise ltS) {us : List (Nat × Str)} (p : us.Perm (turnsM ws)) (s : us.Pairwise fun x y => lexK (tk2 y) (tk2 x) = false) : us.map (·.2) = mostM ws := by
  have e : us = mostT ws (topW ws) := List.Perm.eq_of_pairwise (le := fun x y => lexK (tk2 y) (tk2 x) = false) (fun a b _ _ h1 h2 => tk2_inj (lexK_tri h2 h1)) s (most_pw so _) (p.trans (most_perm ws _ fun q hq => le_top hq).symm)
  rw [e]
  rfl
theorem turns_flat : ∀ ws : List (Str × Nat), (turnsM ws).map (·.2) = flat ws
  | [] => rfl
  | p :: ws => by
    show ((List.range p.2).map _ ++ turnsM ws).map _ = List.replicate p.2 p.1 ++ flat ws
    rw [List.map_append, turns_flat ws, List.map_map]
    congr 1
    refine List.eq_replicate_iff.mpr ⟨by simp, fun b hb => ?_⟩
    obtain ⟨t, _, e⟩ := List.mem_map.mp hb
    exact e.symm
theorem most_flat (ws : List (Str × Nat)) : (mostM ws).Perm (flat ws) := by
  rw [← turns_flat]
  exact (most_perm ws _ fun q hq => le_top hq).map _
/-! ### two books of that day -/
def alt (x y : Str) : Nat → List Str
  | 0 => []
  | k + 1 => x :: y :: alt x y k
theorem alt_snoc (x y : Str) : ∀ k : Nat, alt x y (k + 1) = alt x y k ++ [x, y]
  | 0 => rfl
  | k + 1 => by
    show x :: y :: alt x y (k + 1) = x :: y :: (alt x y k ++ [x, y])
    rw [alt_snoc x y k]
def wrd (x y : Str) (a b M : Nat) : List Str := (List.range M).flatMap fun t => (if t < a then [x] else []) ++ (if t < b then [y] else [])
theorem wrd_eq (x y : Str) (a b : Nat) : ∀ M : Nat, wrd x y a b M = alt x y (min (min a b) M) ++ (List.replicate (min a M - min b M) x ++ List.replicate (min b M - min a M) y)
  | 0 => by
    simp [wrd, alt]
  | M + 1 => by
    have e : wrd x y a b (M + 1) = wrd x y a b M ++ ((if M < a then [x] else []) ++ (if M < b then [y] else [])) := by
      unfold wrd
      rw [List.range_succ, List.flatMap_append]
      simp
    rw [e, wrd_eq x y a b M]
    by_cases ha : M < a
    · by_cases hb : M < b
      · rw [if_pos ha, if_pos hb, show min (min a b) M = M by omega, show min (min a b) (M + 1) = M + 1 by omega, show min a M - min b M = 0 by omega, show min b M - min a M = 0 by omega,
          show min a (M + 1) - min b (M + 1) = 0 by omega, show min b (M + 1) - min a (M + 1) = 0 by omega, alt_snoc]
        simp
      · rw [if_pos ha, if_neg hb, show min (min a b) M = b by omega, show min (min a b) (M + 1) = b by omega, show min b M - min a M = 0 by omega, show min b (M + 1) - min a (M + 1) = 0 by omega,
          show min a (M + 1) - min b (M + 1) = (min a M - min b M) + 1 by omega, List.replicate_succ']
        simp
    · by_cases hb : M < b
      · rw [if_neg ha, if_pos hb, show min (min a b) M = a by omega, show min (min a b) (M + 1) = a by omega, show min a M - min b M = 0 by omega, show min a (M + 1) - min b (M + 1) = 0 by omega,
          show min b (M + 1) - min a (M + 1) = (min b M - min a M) + 1 by omega, List.replicate_succ']
        simp
      · rw [if_neg ha, if_neg hb, show min (min a b) M = min a b by omega, show min (min a b) (M + 1) = min a b by omega, show min a M = a by omega, show min b M = b by omega, show min a (M + 1) = a by omega, show min b (M + 1) = b by omega]
        simp
theorem adj_rep (z : Str) : ∀ n : Nat, adj (z :: List.replicate n z) = 0
  | 0 => rfl
  | n + 1 => by
    show (if z = z then 0 else 1) + adj (z :: List.replicate n z) = 0
    rw [if_pos rfl, adj_rep z n]
theorem adj_alt {x y : Str} (ne : x ≠ y) (r : List Str) : ∀ k : Nat, adj (y :: (alt x y k ++ r)) = 2 * k + adj (y :: r)
  | 0 => by
    show adj (y :: r) = _
    omega
  | k + 1 => by
    show (if y = x then 0 else 1) + ((if x = y then 0 else 1) + adj (y :: (alt x y k ++ r))) = _
    rw [if_neg ne.symm, if_neg ne, adj_alt ne r k]
    omega
theorem last_rep {l : List Str} {z : Str} {n : Nat} : l ++ List.replicate (n + 1) z = (l ++ List.replicate n z) ++ [z] := by
  rw [List.replicate_succ', List.append_assoc]
theorem cyc_wrd {x y : Str} (ne : x ≠ y) {a b M : Nat} (ha : 0 < a) (hb : 0 < b) (am : a ≤ M) (bm : b ≤ M) : cyc (wrd x y a b M) = 2 * min a b := by
  rw [wrd_eq, show min (min a b) M = min a b by omega, show min a M = a by omega, show min b M = b by omega]
  obtain ⟨k, hk⟩ : ∃ k, min a b = k + 1 := ⟨min a b - 1, by omega⟩
  by_cases h : a ≤ b
  · rw [show a - b = 0 by omega, List.replicate_zero, List.nil_append]
    have e : adj (y :: (alt x y (min a b) ++ List.replicate (b - a) y)) = 2 * min a b := by
      rw [adj_alt ne, adj_rep]
      rfl
    cases hn : b - a with
    | zero =>
      rw [hn] at e
      rw [hk] at e ⊢
      rw [List.replicate_zero, List.append_nil] at e ⊢
      rw [alt_snoc, show [x, y] = [x] ++ [y] from rfl, ← List.append_assoc] at e ⊢
      rw [cyc_snoc]
      exact e
    | succ n =>
      rw [hn] at e
      rw [last_rep] at e ⊢
      rw [cyc_snoc]
      exact e
  · rw [show b - a = 0 by omega, List.replicate_zero, List.append_nil]
    obtain ⟨n, hn⟩ : ∃ n, a - b = n + 1 := ⟨a - b - 1, by omega⟩
    have e : adj (x :: (alt x y (min a b) ++ List.replicate (a - b) x)) = 2 * min a b := by
      rw [hk, hn]
      show (if x = x then 0 else 1) + ((if x = y then 0 else 1) + adj (y :: (alt x y k ++ List.replicate (n + 1) x))) = _
      rw [if_pos rfl, if_neg ne, adj_alt ne]
      show 0 + (1 + (2 * k + ((if y = x then 0 else 1) + adj (x :: List.replicate n x)))) = _
      rw [if_neg ne.symm, adj_rep]
      omega
    rw [hn] at e ⊢
    rw [last_rep] at e ⊢
    rw [cyc_snoc]
    exact e
theorem cyc_two {x y : Str} (ne : x ≠ y) {a b : Nat} (ha : 0 < a) (hb : 0 < b) : cyc (List.replicate a x ++ List.replicate b y) = 2 := by
  obtain ⟨n, rfl⟩ : ∃ n, b = n + 1 := ⟨b - 1, by omega⟩
  obtain ⟨m, rfl⟩ : ∃ m, a = m + 1 := ⟨a - 1, by omega⟩
  rw [last_rep, cyc_snoc, ← last_rep]
  have e : y :: (List.replicate (m + 1) x ++ List.replicate (n + 1) y) = (y :: List.replicate m x) ++ x :: y :: List.replicate n y := by
    rw [List.replicate_succ', List.replicate_succ]
    simp
  rw [e, adj_append]
  have e1 : (y :: List.replicate m x) ++ [x] = y :: x :: List.replicate m x := by
    show y :: (List.replicate m x ++ [x]) = _
    rw [← List.replicate_succ', List.replicate_succ]
  rw [e1]
  show ((if y = x then 0 else 1) + adj (x :: List.replicate m x)) + ((if x = y then 0 else 1) + adj (y :: List.replicate n y)) = 2
  rw [if_neg ne.symm, if_neg ne, adj_rep, adj_rep]
/-- where two books stand among the wants -/
theorem two_at : ∀ {ws : List (Str × Nat)} {x y : Str} {a b : Nat}, (wnames ws).Nodup → (x, a) ∈ ws → (y, b) ∈ ws → x ≠ y →
    (∃ l1 l2 l3, ws = l1 ++ (x, a) :: (l2 ++ (y, b) :: l3) ∧ ∀ p ∈ l1 ++ l2 ++ l3, ¬ (p.1 = x ∨ p.1 = y)) ∨ ∃ l1 l2 l3, ws = l1 ++ (y, b) :: (l2 ++ (x, a) :: l3) ∧ ∀ p ∈ l1 ++ l2 ++ l3, ¬ (p.1 = x ∨ p.1 = y) := by
  intro ws x y a b nd hx hy ne
  have key : ∀ {x y : Str} {a b : Nat} {l r : List (Str × Nat)}, (wnames (l ++ (x, a) :: r)).Nodup → (y, b) ∈ r → ∃ l2 l3, r = l2 ++ (y, b) :: l3 ∧ ∀ p ∈ l ++ l2 ++ l3, ¬ (p.1 = x ∨ p.1 = y) := by
    intro x y a b l r nd h
    obtain ⟨l2, l3, rfl⟩ := List.append_of_mem h
    refine ⟨l2, l3, rfl, fun p hp z => ?_⟩
    unfold wnames at nd
    simp only [List.map_append, List.map_cons] at nd
    have hp' : p.1 ∈ l.map (fun x => x.1) ∨ p.1 ∈ l2.map (fun x => x.1) ∨ p.1 ∈ l3.map (fun x => x.1) := by
      rcases List.mem_append.mp hp with hp | hp
      · rcases List.mem_append.mp hp with hp | hp
        · exact .inl (List.mem_map.mpr ⟨p, hp, rfl⟩)
        · exact .inr (.inl (List.mem_map.mpr ⟨p, hp, rfl⟩))
      · exact .inr (.inr (List.mem_map.mpr ⟨p, hp, rfl⟩))
    obtain ⟨_, n2, n3⟩ := List.nodup_append.mp nd
    obtain ⟨n4, n5⟩ := List.nodup_cons.mp n2
    obtain ⟨_, n6, n7⟩ := List.nodup_append.mp n5
    obtain ⟨n8, _⟩ := List.nodup_cons.mp n6
    rcases z with z | z
    · rw [z] at hp'
      rcases hp' with h | h | h
      · exact n3 _ h _ List.mem_cons_self rfl
      · exact n4 (List.mem_append_left _ h)
      · exact n4 (List.mem_append_right _ (List.mem_cons_of_mem _ h))
    · rw [z] at hp'
      rcases hp' with h | h | h
      · exact n3 _ h _ (List.mem_cons_of_mem _ (List.mem_append_right _ List.mem_cons_self)) rfl
      · exact n7 _ h _ List.mem_cons_self rfl
      · exact n8 h
  obtain ⟨l, r, rfl⟩ := List.append_of_mem hx
  rcases List.mem_append.mp hy with h | h
  · obtain ⟨l1, l2, rfl⟩ := List.append_of_mem h
    right
    have nd2 : (wnames (l1 ++ (y, b) :: (l2 ++ (x, a) :: r))).Nodup := by simpa using nd
    obtain ⟨m2, m3, e, q⟩ := key (l := l1) (r := l2 ++ (x, a) :: r) nd2 (List.mem_append_right _ List.mem_cons_self)
    refine ⟨l1, m2, m3, by rw [← e]; simp, fun p hp z => q p hp z.symm⟩
  · left
    rcases List.mem_cons.mp h with h | h
    · exact absurd (congrArg Prod.fst h).symm ne
    · obtain ⟨l2, l3, e, q⟩ := key nd h
      exact ⟨l, l2, l3, by rw [e], q⟩
theorem two_comm (x y : Str) (l : List Str) : two x y l = two y x l := by
  unfold two
  congr 1
  funext z
  exact decide_eq_decide.mpr or_comm
theorem two_none {x y : Str} : ∀ {l : List Str}, (∀ z ∈ l, ¬ (z = x ∨ z = y)) → two x y l = []
  | [], _ => rfl
  | z :: l, h => by rw [two_out (h z List.mem_cons_self), two_none fun u hu => h u (List.mem_cons_of_mem _ hu)]
theorem two_rep {x y : Str} (z : Str) (h : z = x ∨ z = y) : ∀ n : Nat, two x y (List.replicate n z) = List.replicate n z
  | 0 => rfl
  | n + 1 => by rw [List.replicate_succ, two_in h, two_rep z h n]
theorem flat_none {x y : Str} {l : List (Str × Nat)} (h : ∀ p ∈ l, ¬ (p.1 = x ∨ p.1 = y)) : two x y (flat l) = [] := two_none fun z hz => by
  obtain ⟨p, hp, rfl⟩ := List.mem_map.mp (flat_mem hz)
  exact h p hp
theorem round_none {x y : Str} {l : List (Str × Nat)} (h : ∀ p ∈ l, ¬ (p.1 = x ∨ p.1 = y)) (t : Nat) : two x y ((roundM l t).map (·.2)) = [] := two_none fun z hz => by
  obtain ⟨q, hq, rfl⟩ := List.mem_map.mp hz
  obtain ⟨p, hp, rfl⟩ := List.mem_map.mp hq
  exact h p (List.mem_filter.mp hp).1
theorem round_app (l r : List (Str × Nat)) (t : Nat) : roundM (l ++ r) t = roundM l t ++ roundM r t := by
  unfold roundM
  rw [List.filter_append, List.map_append]
theorem two_flat {x y : Str} {a b : Nat} {l1 l2 l3 : List (Str × Nat)} (h : ∀ p ∈ l1 ++ l2 ++ l3, ¬ (p.1 = x ∨ p.1 = y)) : two x y (flat (l1 ++ (x, a) :: (l2 ++ (y, b) :: l3))) = List.replicate a x ++ List.replicate b y := by
  have h1 : ∀ p ∈ l1, ¬ (p.1 = x ∨ p.1 = y) := fun p hp => h p (List.mem_append_left _ (List.mem_append_left _ hp))
  have h2 : ∀ p ∈ l2, ¬ (p.1 = x ∨ p.1 = y) := fun p hp => h p (List.mem_append_left _ (List.mem_append_right _ hp))
  have h3 : ∀ p ∈ l3, ¬ (p.1 = x ∨ p.1 = y) := fun p hp => h p (List.mem_append_right _ hp)
  rw [flat_append]
  show two x y (flat l1 ++ (List.replicate a x ++ flat (l2 ++ (y, b) :: l3))) = _
  rw [flat_append]
  show two x y (flat l1 ++ (List.replicate a x ++ (flat l2 ++ (List.replicate b y ++ flat l3)))) = _
  rw [two_append, two_append, two_append, two_append, flat_none h1, flat_none h2, flat_none h3, two_rep x (.inl rfl), two_rep y (.inr rfl)]
  simp
theorem two_most {x y : Str} {a b M : Nat} {l1 l2 l3 : List (Str × Nat)} (h : ∀ p ∈ l1 ++ l2 ++ l3, ¬ (p.1 = x ∨ p.1 = y)) : two x y ((mostT (l1 ++ (x, a) :: (l2 ++ (y, b) :: l3)) M).map (·.2)) = wrd x y a b M := by
  have h1 : ∀ p ∈ l1, ¬ (p.1 = x ∨ p.1 = y) := fun p hp => h p (List.mem_append_left _ (List.mem_append_left _ hp))
  have h2 : ∀ p ∈ l2, ¬ (p.1 = x ∨ p.1 = y) := fun p hp => h p (List.mem_append_left _ (List.mem_append_right _ hp))
  have h3 : ∀ p ∈ l3, ¬ (p.1 = x ∨ p.1 = y) := fun p hp => h p (List.mem_append_right _ hp)
  unfold mostT wrd
  rw [List.map_flatMap]
  unfold two
  rw [List.filter_flatMap]
  congr 1
  funext t
  show two x y ((roundM (l1 ++ (x, a) :: (l2 ++ (y, b) :: l3)) t).map (·.2)) = _
  rw [round_app, round_cons, round_app, round_cons, List.map_append, List.map_append, List.map_append, List.map_append, two_append, two_append, two_append, two_append, round_none h1, round_none h2, round_none h3]
  have one : ∀ (c : Prop) [Decidable c] (z : Str), (z = x ∨ z = y) → two x y ((if c then [(t, z)] else []).map (·.2)) = if c then [z] else [] := fun c _ z hz => by
    by_cases hc : c
    · rw [if_pos hc, if_pos hc]
      exact two_in hz []
    · rw [if_neg hc, if_neg hc]
      rfl
  rw [one _ x (.inl rfl), one _ y (.inr rfl)]
  simp
theorem least_cyc {ws : List (Str × Nat)} {x y : Str} {a b : Nat} (nd : (wnames ws).Nodup) (hx : (x, a) ∈ ws) (hy : (y, b) ∈ ws) (ne : x ≠ y) (ha : 0 < a) (hb : 0 < b) : cyc (two x y (flat ws)) = 2 := by
  rcases two_at nd hx hy ne with ⟨l1, l2, l3, rfl, h⟩ | ⟨l1, l2, l3, rfl, h⟩
  · rw [two_flat h, cyc_two ne ha hb]
  · rw [two_comm, two_flat fun p hp z => h p hp z.symm, cyc_two ne.symm hb ha]
theorem most_cyc {ws : List (Str × Nat)} {x y : Str} {a b : Nat} (nd : (wnames ws).Nodup) (hx : (x, a) ∈ ws) (hy : (y, b) ∈ ws) (ne : x ≠ y) (ha : 0 < a) (hb : 0 < b) : cyc (two x y (mostM ws)) = 2 * min a b := by
  have la : a ≤ topW ws := le_top hx
  have lb : b ≤ topW ws := le_top hy
  unfold mostM
  rcases two_at nd hx hy ne with ⟨l1, l2, l3, e, h⟩ | ⟨l1, l2, l3, e, h⟩
  · generalize topW ws = M at la lb
    rw [e, two_most h, cyc_wrd ne ha hb la lb]
  · generalize topW ws = M at la lb
    rw [e, two_comm, two_most fun p hp z => h p hp z.symm, cyc_wrd ne.symm hb ha lb la, Nat.min_comm]
end Lt

set_option Elab.async false
set_option linter.all false
set_option maxRecDepth 100000
set_option maxHeartbeats 4000000
namespace Lt
open PySem PySem.Spec PyProof.Rows L2
/-! ### tables that grow -/
def Tabs (H : Hp) (Ps : List Addr) : Prop := ∀ P ∈ Ps, GxR.TabG H P
theorem Tabs.same {H H' : Hp} {Ps : List Addr} (t : Tabs H Ps) (s : Same H H') : Tabs H' Ps := fun P h => tabG_same (t P h) s
theorem Tabs.but {T : Addr} {H H' : Hp} {Ps : List Addr} (t : Tabs H Ps) (s : SameT T H H') (h : ∃ xs, H T = some (.lst xs)) : Tabs H' Ps := fun P hp => tabG_but (t P hp) s h
theorem Tabs.tab {P : Addr} {H H' : Hp} {Ps : List Addr} (t : Tabs H Ps) (s : GxR.Tabbed P H H') : Tabs H' Ps := fun P' hp => tabG_tab (t P' hp) s
theorem WL.moveN {H H' : Hp} {ts : List Addr} {ws : List (Str × Nat)} (h : WL H ts ws) (s : SameN H H') : WL H' ts ws := h.move fun t xs e => s.tupH e
theorem WAt.sameN {H H' : Hp} {W : Addr} {ws : List (Str × Nat)} (h : WAt H W ws) (s : SameN H H') : WAt H' W ws := by
  obtain ⟨ts, h1, h2⟩ := h
  exact ⟨ts, h1.sameN s, h2.moveN s⟩
theorem TpS.sameN {K : PySem.W.Frag} {H H' : Hp} {a : Addr} {xs : List V} (h : TpS K H a xs) (s : SameN H H') : TpS K H' a xs := s.tup h
/-! ### wants in order -/
theorem pw_rising : ∀ (p : Str) (l : List Str), (p :: l).Pairwise ltS → risingS p l = true
  | _, [], _ => rfl
  | p, x :: r, h => by
    obtain ⟨h1, h2⟩ := List.pairwise_cons.mp h
    show (!ltCps x.cps.toList p.cps.toList && risingS x r) = true
    rw [pw_rising x r h2, Bool.and_true, ltCps_eq, decide_eq_false (ltS_asymm (h1 x List.mem_cons_self))]
    rfl
theorem pw_sorted {l : List Str} (h : l.Pairwise ltS) : sortedS l = true := by
  cases l with
  | nil => rfl
  | cons x r => exact pw_rising x r h
structure WOk (ws : List (Str × Nat)) : Prop where
  up : (wnames ws).Pairwise ltS
  pos : ∀ p ∈ ws, 0 < p.2
  len : ws.length ≤ 7
  few : topW ws ≤ 60
  ok : ∀ b ∈ wnames ws, PyData.strOk b = true
theorem WOk.nd {ws : List (Str × Nat)} (h : WOk ws) : (wnames ws).Nodup := h.up.imp fun {a b} (l : ltS a b) (e : a = b) => ltS_irrefl a (by rw [← e] at l; exact l)
theorem WOk.so {ws : List (Str × Nat)} (h : WOk ws) : sortedS (wnames ws) = true := pw_sorted h.up
theorem WOk.mostIn {ws : List (Str × Nat)} (h : WOk ws) : ∀ b ∈ mostM ws, b ∈ wnames ws := fun b hb => flat_mem ((most_flat ws).mem_iff.mp hb)
theorem WOk.mostAll {ws : List (Str × Nat)} (h : WOk ws) : ∀ b ∈ wnames ws, b ∈ mostM ws := fun b hb => (most_flat ws).mem_iff.mpr (mem_flat h.pos hb)
theorem top_flat (ws : List (Str × Nat)) : (flat ws).length = topW ws := flat_len ws
theorem WOk.mostLen {ws : List (Str × Nat)} (h : WOk ws) : (mostM ws).length ≤ 60 := by
  rw [(most_flat ws).length_eq, top_flat]
  exact h.few
theorem WOk.flatLen {ws : List (Str × Nat)} (h : WOk ws) : (flat ws).length ≤ 60 := by
  rw [top_flat]
  exact h.few
/-! ### promises -/
def spSettledN (K : PySem.W.Frag) (Ps : List Addr) : Sp := fun vs H Q _ => ∃ (W r : Addr) (ws : List (Str × Nat)) (rs : List Str), vs = [.ref W, .ref r] ∧ WAt H W ws ∧ TpS K H r (rs.map V.str) ∧ ws.length ≤ 7 ∧ (∀ b ∈ rs, b ∈ wnames ws) ∧ Tabs H Ps ∧
  ∀ (q : Addr) (H' : Hp), SameN H H' → Tabs H' Ps → TpO H' q ((behindM (wnames ws) rs).map V.str) → Q (.ref q) H'
/-- what each day asks -/
def eachV (ns rs : List Str) : Nat := (liftedM (behindM ns rs) rs).sum
def spEachN (K : PySem.W.Frag) (Ps : List Addr) : Sp := fun vs H Q _ => ∃ (W r : Addr) (ws : List (Str × Nat)) (rs : List Str), vs = [.ref W, .ref r] ∧ WAt H W ws ∧ TpS K H r (rs.map V.str) ∧ ws.length ≤ 7 ∧ rs.length ≤ 60 ∧ (∀ b ∈ rs, b ∈ wnames ws) ∧ Tabs H Ps ∧
  ∀ H' : Hp, SameN H H' → Tabs H' Ps → Q (.int (eachV (wnames ws) rs : Int)) H'
abbrev dayD (ns rs : List Str) : List PyData := (prs ns ns.length).map (tri (rowsM (behindM ns rs) rs))
def spDayPN (K : PySem.W.Frag) (Ps : List Addr) : Sp := fun vs H Q _ => ∃ (W r : Addr) (ws : List (Str × Nat)) (rs : List Str), vs = [.ref W, .ref r] ∧ WAt H W ws ∧ TpS K H r (rs.map V.str) ∧ WOk ws ∧ rs.length ≤ 60 ∧ (∀ b ∈ rs, b ∈ wnames ws) ∧ Tabs H Ps ∧
  ∀ (l : Addr) (H' : Hp) (xs : List V), SameN H H' → Tabs H' Ps → H' l = some (.lst xs) → DpAll K H' xs (dayD (wnames ws) rs) → Q (.ref l) H'
def spMostDay (Ps : List Addr) : Sp := fun vs H Q _ => ∃ (W : Addr) (ws : List (Str × Nat)), vs = [.ref W] ∧ WAt H W ws ∧ WOk ws ∧ Tabs H Ps ∧ ∀ (D : Addr) (H' : Hp), SameN H H' → Tabs H' Ps → TpO H' D ((mostM ws).map V.str) → Q (.ref D) H'
def spLeastDay (Ps : List Addr) : Sp := fun vs H Q _ => ∃ (W : Addr) (ws : List (Str × Nat)), vs = [.ref W] ∧ WAt H W ws ∧ WOk ws ∧ Tabs H Ps ∧ ∀ (D : Addr) (H' : Hp), SameN H H' → Tabs H' Ps → TpO H' D ((flat ws).map V.str) → Q (.ref D) H'
def spMost (Ps : List Addr) : Sp := fun vs H Q _ => ∃ (W : Addr) (ws : List (Str × Nat)), vs = [.ref W] ∧ WAt H W ws ∧ WOk ws ∧ Tabs H Ps ∧ ∀ (H' : Hp), SameN H H' → Tabs H' Ps → Q (.int (eachV (wnames ws) (mostM ws) : Int)) H'
def spLeast (Ps : List Addr) : Sp := fun vs H Q _ => ∃ (W : Addr) (ws : List (Str × Nat)), vs = [.ref W] ∧ WAt H W ws ∧ WOk ws ∧ Tabs H Ps ∧ ∀ (H' : Hp), SameN H H' → Tabs H' Ps → Q (.int (eachV (wnames ws) (flat ws) : Int)) H'
def spMostP (K : PySem.W.Frag) (Ps : List Addr) : Sp := fun vs H Q _ => ∃ (W : Addr) (ws : List (Str × Nat)), vs = [.ref W] ∧ WAt H W ws ∧ WOk ws ∧ Tabs H Ps ∧
  ∀ (l : Addr) (H' : Hp) (xs : List V), SameN H H' → Tabs H' Ps → H' l = some (.lst xs) → DpAll K H' xs (dayD (wnames ws) (mostM ws)) → Q (.ref l) H'
end Lt

set_option Elab.async false
set_option linter.all false
set_option maxRecDepth 100000
set_option maxHeartbeats 4000000
/-! sum(y for x, y in t), t a tuple of pairs whose second things are whole numbers. -/
namespace Lt
open PySem PySem.Spec PyProof.Rows L2
section
variable {X : Cx} {pins : List (Addr × Obj)} {σ : L2.St} {H : Hp} {s : Shared}
def tSumG (K : PySem.W.Frag) (P : Addr) (te : TE) : TE := fun σ H Q => te σ H fun v H1 => ∃ (a : Addr) (ts : List Addr) (ps : List (V × Int)), v = .ref a ∧ SqT K H1 a (ts.map V.ref) ∧ ts.length = ps.length ∧
  (∀ (i : Nat) (t : Addr) (p : V × Int), ts[i]? = some t → ps[i]? = some p → SqT K H1 t [p.1, .int p.2]) ∧ (∀ l : List Int, l = ps.map (·.2) → ∀ j, j < l.length → InLong (l.getD j 0) ∧ InLong ((l.take (j + 1)).sum)) ∧ GxR.TabG H1 P ∧ ∀ H2, GxR.Tabbed P H1 H2 → Q (.int (ps.map (·.2)).sum) H2
theorem pe_sumG {c P : Addr} {x y : Str} {iter : Expr} {px py pt pe p pos gpos : Pos} {kt : Nat} {scope : Scope} {te : TE} {k : Nat} (hr : Room k X.A) (hg : Gl X "sum") (hm : X.mg "sum" = none) (TB : GxR.TabB X.base X.mg c P) (hc : X.env.code = .ref c) (S : GenTwo scope x y) (hi : PE X iter te)
    (hs : ∀ v, genFold iter X.env v = pure v := by intro _; rfl) (hd : (y == ("__debug__" : Str)) = false := by decide)
    (he : starEach [.GeneratorExp (.Name y pe) [⟨.Tuple [.Name x px, .Name y py] kt pt, iter, [], 0⟩] scope gpos] X.env = (false, eval (.GeneratorExp (.Name y pe) [⟨.Tuple [.Name x px, .Name y py] kt pt, iter, [], 0⟩] scope gpos) X.env) :: starEach [] X.env := by rfl) :
    PE X (.Call (.Name "sum" p) [.GeneratorExp (.Name y pe) [⟨.Tuple [.Name x px, .Name y py] kt pt, iter, [], 0⟩] scope gpos] [] pos) (tSumG X.K P te) := by
  obtain ⟨kind, co, loc, dot, one, two, ne⟩ := S
  have hv : bootBuiltins ("sum" : Str) = some (.builtin "sum") := by decide +kernel
  refine ⟨fun pins s σ H Q inv h => wpAny_Call_Name_kw (ld_blt inv hg hm hv (PyProof.Rows.callWith_builtin1 ?_ he (by rfl)))⟩
  rw [he]
  show wpAny _ _ (spliced ((false, _) :: backTo pos (starEach [] X.env))) _ _ s
  refine Calls.spliced_cons ?_
  refine wpAny_GeneratorExp_walksQT hr.hd co (closure_ok fun z hz e => by rw [loc z hz] at e; cases e) (fun z hz e => by rw [loc z hz] at e; cases e) dot one two ne kind (by have := hr.dp; omega) ?_ hs
  refine thn (hi.run pins s σ H _ inv h) fun xv s1 ⟨v, H1, inv1, rel, q1⟩ => ?_
  obtain ⟨a, ts, ps, rfl, sq, len, each, few, ⟨tb, hP, ht⟩, q⟩ := q1
  cases rel
  obtain ⟨its, vals, tupA, fit⟩ := inv1.tuple sq
  have nits : its.length = ts.length := by rw [← vals.length, List.length_map]
  have pairs : ∀ i, ∃ u : Array Value, i < ts.length → ∃ (t : Addr) (p : V × Int) (va vb : Value), ts[i]? = some t ∧ ps[i]? = some p ∧ u = #[va, vb] ∧ RelV (.int p.2) vb ∧ s1.heap.IsTuple t u := by
    intro i
    by_cases hi : i < ts.length
    · have e1 := List.getElem?_eq_getElem hi
      have e2 : ps[i]? = some (ps[i]'(by omega)) := List.getElem?_eq_getElem _
      obtain ⟨us, vs2, tp, _⟩ := inv1.tuple (each i _ _ e1 e2)
      obtain ⟨va, vb, rfl, r1, r2⟩ := vs2.two
      exact ⟨#[va, vb], fun _ => ⟨_, _, va, vb, e1, e2, rfl, r2, tp⟩⟩
    · exact ⟨#[], fun z => absurd z hi⟩
  obtain ⟨us, hus⟩ := Classical.axiomOfChoice pairs
  have ats : ∀ i, i < ts.length → its.toArray[i]? = some (.ref ((ts[i]?).getD 0)) ∧ s1.heap.IsTuple ((ts[i]?).getD 0) (us i) := by
    intro i hi
    obtain ⟨t, pp, va, vb, e1, e2, _, _, tp⟩ := hus i hi
    obtain ⟨u2, g1, g2⟩ := vals.get (i := i) (x := .ref t) (by rw [List.getElem?_map, e1]; rfl)
    obtain rfl : u2 = .ref t := g2
    rw [e1]
    exact ⟨by simpa using g1, tp⟩
  have sz : its.toArray.size = ts.length := by rw [List.size_toArray, nits]
  have lt1 : ∀ {b : Addr} {u : Array Value}, s1.heap.IsTuple b u → b < s1.heap.objs.size := fun t => by
    obtain ⟨o, e, _⟩ := t
    exact Heap.lt_size e
  have at0 : s1.heap.get? P = some { cls := .none, data := .fields tb } := inv1.hok P _ hP
  have ltP : P < s1.heap.objs.size := Heap.lt_size at0
  have neP : ∀ {b : Addr} {u : Array Value}, s1.heap.IsTuple b u → b ≠ P := fun t e => by
    obtain ⟨o, e1, e2, _⟩ := t
    rw [e, at0] at e1
    cases e1
    cases e2
  refine wpAny_pyIter_tuple tupA ⟨inv1.nolimit.push _, gen_code inv1 TB hc hP ht fun code h3 tk more ext big at3 tri => ?_⟩
  have keep : ∀ b u, b ≠ P → s1.heap.get? b = some u → h3.get? b = some u := fun b u nb e => ext b u nb (Heap.get?_push_of_some _ e)
  have it3 : h3.IsTupleIter s1.heap.objs.size a 0 := ⟨_, ext _ _ (Nat.ne_of_gt ltP) (Heap.get?_push_size _ rfl), rfl, rfl⟩
  have nst : cStatics ≠ P ∧ cStatics < s1.heap.objs.size := by
    obtain ⟨_, ns, _⟩ := inv1.nolimit
    refine ⟨fun e => ?_, ns.lt⟩
    obtain ⟨o', es, ep, ho, hd', _⟩ := ns
    rw [e, at0] at ho
    cases ho
    cases hd'
  have isT : s1.heap.IsTuple a its.toArray := tupA
  have tup3 : h3.IsTuple a its.toArray := isT.at fun o e => keep _ _ (neP isT) e
  have ats3 : ∀ i, i < ts.length → h3.IsTuple ((ts[i]?).getD 0) (us i) := fun i hi => (ats i hi).2.at fun o e => keep _ _ (neP (ats i hi).2) e
  have up : s1.heap.objs.size < h3.objs.size := big
  have W0 : ∀ A' : Around, A'.handled = none → WalksU X.prog X.w A' s1.heap.objs.size _ [s1.heap.objs.size] ts.length _ _ _ :=
    fun A' hA => walk_tups (sz ▸ Walks.tuple hA s1.heap.objs.size a (Nat.ne_of_lt (lt1 tupA)) its.toArray) (fun i => (ts[i]?).getD 0) us
      (fun i v hi e => Option.some.inj (e.symm.trans (ats i hi).1)) (fun i hi z => Nat.ne_of_lt (lt1 (ats i hi).2) (List.mem_singleton.mp z))
      (fun e i v s' Q' E' st q' => by
        obtain ⟨o, ho, hc', hd'⟩ := st.1
        exact letGo_of_cls ho hc' hd' (by decide) q')
  refine ⟨s1.heap.objs.size, _, [s1.heap.objs.size], ts.length, _, _, _, fun _ => true, fun i z => i < ts.length ∧ ∃ va vb, us i = #[va, vb] ∧ z = vb, rfl, W0, ?two, ⟨⟨it3, tup3⟩, ats3⟩, ?fp, (inv1.nolimit.push _).extBut ext nst.1, fun z => Nat.ne_of_lt nst.2 (List.mem_singleton.mp z), ?quiet, ?rest⟩
  case two =>
    rintro i vs ⟨hi, rfl⟩
    obtain ⟨_, _, va, vb, _, _, e, _⟩ := hus i hi
    exact ⟨va, vb, e⟩
  case fp =>
    intro b hb
    rcases List.mem_append.mp hb with z | z
    · rcases List.mem_cons.mp z with z | z
      · rw [z]
        exact up
      · rw [List.mem_singleton.mp z]
        exact Nat.lt_trans (lt1 tupA) up
    · obtain ⟨i, hi, rfl⟩ := List.mem_map.mp z
      exact Nat.lt_trans (lt1 (ats i (List.mem_range.mp hi)).2) up
  case quiet =>
    intro href _
    refine ⟨fun A' E' i va vb s2 m2 hA hp hn ha hb hk => ?_, fun A' E' i va vb s2 m2 hA hp hz hn ha hb hk => ?_⟩
    · simp only [List.forIn_nil]
      exact wpAny_pure ⟨rfl, GxR.keeps_refl _⟩
    · exact wpAny_Name (wpAny_loadName_local kind (show scope.names.lookup y = some .local from two) hn hb ⟨⟨hp.1, va, vb, hp.2.symm, rfl⟩, GxR.keeps_refl _⟩) hd
  case rest =>
    intro g h5 tk5 gs bare hag hsz keep5 W gat
    rw [GxR.passing_true, List.length_range] at W
    have W1 := WalksS.of_in1 (A := X.A.in1) (WalksS.of_in1 (A := X.A.in1.in1) (WalksS.of_in1 (A := X.A.in1.in1.in1) W))
    have vals2 : ∀ i u, (∃ j, (List.range ts.length)[i]? = some j ∧ j < ts.length ∧ ∃ va vb, us j = #[va, vb] ∧ u = vb) → ∃ t, u = .int ((ps.map (·.2)).getD i 0) t := by
      rintro i u ⟨j, hj, lj, va, vb, e1, rfl⟩
      have li : i < ts.length := by
        have z := (List.getElem?_eq_some_iff.mp hj).1
        rw [List.length_range] at z
        exact z
      obtain rfl : i = j := by
        rw [List.getElem?_range li] at hj
        exact Option.some.inj hj
      obtain ⟨_, p2, va2, vb2, _, f2, f3, ⟨t, f4⟩, _⟩ := hus i li
      rw [f3] at e1
      have e3 : vb2 = u := by
        have z := congrArg Array.toList e1
        simpa using (List.cons.inj (List.cons.inj z).2).1
      refine ⟨t, ?_⟩
      rw [List.getD_eq_getElem?_getD, List.getElem?_map, f2, ← e3, f4]
      rfl
    refine Calls.spliced_nil (call_sum_walkS (W1.self 0 _ _ _ gat ⟨_, _, _, _, _, _, _, fun i => (ps.map (·.2)).getD i 0, rfl, W1, gat, fun b hb => ?_, vals2, fun j hj => ?_, fun s' t' moved => ?_⟩))
    · show b < h5.objs.size
      have e5 : h5.objs.size = g + 1 := hsz
      have g3 : h3.objs.size < g := hag
      rcases List.mem_cons.mp hb with z | z
      · rw [z, e5]
        exact Nat.lt_succ_self g
      · rcases List.mem_cons.mp z with z | z
        · rw [z, e5]
          exact Nat.lt_succ_of_lt g3
        · rw [e5]
          exact Nat.lt_succ_of_lt (Nat.lt_trans (List.mem_range.mp z) g3)
    · have lens : (ps.map (·.2)).length = ts.length := by rw [List.length_map, ← len]
      rw [preSum_getD]
      exact few (ps.map (·.2)) rfl j (by omega)
    · have old : ∀ b u, s1.heap.get? b = some u → b ∉ [h3.objs.size, s1.heap.objs.size] := fun b u e hb => by
        have l := Heap.lt_size e
        rcases List.mem_cons.mp hb with z | z
        · exact Nat.lt_asymm up (by rw [← z]; exact l)
        · rw [List.mem_singleton.mp z] at l
          exact Nat.lt_irrefl _ l
      have inv2 := GxR.inv_tab (more := more) (h' := s'.heap) (g' := s'.gens) (d' := s'.drawn) (t' := s'.toks) inv1 hP (fun b u nb e => moved.heap b u (old b u e) (keep5 b u (keep b u nb e))) (moved.heap P _ (old P _ at0) (keep5 P _ at3)) (AllBare.movedS (inv1.bare.push bare) moved)
      rw [GxR.sh_eta s1 s' moved.os] at inv2
      have lens : (ps.map (·.2)).length = ts.length := by rw [List.length_map, ← len]
      refine ⟨.int (ps.map (·.2)).sum, _, inv2, ⟨t', ?_⟩, q _ ⟨⟨_, upd_same, tri⟩, fun b nb => upd_ne nb⟩⟩
      rw [preSum_getD, ← lens, List.take_length]

end
end Lt

set_option Elab.async false
set_option linter.all false
set_option maxRecDepth 100000
set_option maxHeartbeats 4000000
/-! sorted(set(xs)), xs a list of texts: the set's own table is told all the while, so that it can be walked. -/
namespace Lt
open PySem PySem.Spec PyProof.Rows L2
def entryT (P : Program) (w : World) (z : Str) (t : Tok) : Int × Value := ((PySem.strKind P w).hash z, .str z t)
def textOf (e : Int × Value) : Str := match e.2 with
  | .str z _ => z
  | _ => Str.empty
/-- a set whose things are these texts, and how its table stands -/
structure TxtAt (P : Program) (w : World) (h : Heap) (a : Addr) (o : Obj) (es : Array (Int × Value)) (ep : Nat) (tb : SetTable) (zs : List Str) : Prop where
  here : h.get? a = some o
  kind : o.ExactSet
  data : o.data = .set es ep tb
  each : ∀ e ∈ es.toList, ∃ z t, e = entryT P w z t
  once : (es.toList.map textOf).Nodup
  mem : ∀ z, z ∈ es.toList.map textOf ↔ z ∈ zs
  small : es.size < scanBound
  fits : tb.fits es.size = true
  ris : Ris tb.place.toList
  led : w.params.followText "set-order" = true ∨ tb.led = true
def TxtSet (P : Program) (w : World) (h : Heap) (a : Addr) (zs : List Str) : Prop := ∃ o es ep tb, TxtAt P w h a o es ep tb zs
section
variable {P : Program} {w : World} {A : Around} {E : Value → Shared → Prop} {s : Shared} {a : Addr}
theorem elems_txt {es : List (Int × Value)} (h : ∀ e ∈ es, ∃ z t, e = entryT P w z t) : ElemsOf (PySem.strKind P w) es := fun e he => by
  obtain ⟨z, t, rfl⟩ := h e he
  exact ⟨⟨z, strKind_is P w z t, rfl⟩, rfl⟩
theorem TxtAt.few {h : Heap} {o : Obj} {es : Array (Int × Value)} {ep : Nat} {tb : SetTable} {zs : List Str} (x : TxtAt P w h a o es ep tb zs) : es.size ≤ zs.length := by
  have z := nodup_le x.once fun y hy => (x.mem y).mp hy
  rw [List.length_map] at z
  exact z
theorem TxtSet.keep {h h' : Heap} {zs : List Str} (x : TxtSet P w h a zs) (k : ∀ o, h.get? a = some o → h'.get? a = some o) : TxtSet P w h' a zs := by
  obtain ⟨o, es, ep, tb, y⟩ := x
  exact ⟨o, es, ep, tb, { y with here := k o y.here }⟩
/-- one text more: stored, and the table perhaps laid anew -/
theorem txt_store {o : Obj} {es : Array (Int × Value)} {ep : Nat} {tb : SetTable} (ho : s.heap.get? a = some o) (ex : o.ExactSet) (hd : o.data = .set es ep tb) {ns : Array (Int × Value)} {nt : SetTable} {zs : List Str}
    (each : ∀ e ∈ ns.toList, ∃ z t, e = entryT P w z t) (once : (ns.toList.map textOf).Nodup) (mem : ∀ z, z ∈ ns.toList.map textOf ↔ z ∈ zs) (small : ns.size < scanBound) (fits : nt.fits ns.size = true) (ris : Ris nt.place.toList)
    (led : w.params.followText "set-order" = true ∨ nt.led = true) {grow : Bool} {tell : Bool → Sem Unit} (quiet : ∀ (b : Bool) (s1 : Shared) (Q : Unit → Shared → Prop), Q () s1 → wpAny (model P w) A (tell b) Q E s1) {R : Option Bool → Shared → Prop}
    (hR : ∀ h', Heap.SameBut a s.heap h' → TxtSet P w h' a zs → R (some true) { s with heap := h' }) :
    wpAny (model P w) A (do
      storeSet a ns nt
      if grow = true then do
        tell (relayAll nt ns (SetTable.grown ns.size)).2.2
        storeSet a (relayAll nt ns (SetTable.grown ns.size)).1 (relayAll nt ns (SetTable.grown ns.size)).2.1
        pure (some true)
      else pure (some true)) R E s := by
  have at1 := store_at (es' := ns) (t' := nt) ho hd
  have but1 := Heap.SameBut.update s.heap a (Obj.putSet ns nt)
  refine wpAny_bind (wpAny_storeSet_of ho hd ?_ (fits_of_scanBound small))
  cases grow with
  | false =>
    rw [if_neg Bool.false_ne_true]
    exact wpAny_pure (hR _ but1 ⟨_, ns, _, nt, at1, ex, rfl, each, once, mem, small, fits, ris, led⟩)
  | true =>
    rw [if_pos rfl]
    have perm := relayAll_perm nt ns (SetTable.grown ns.size)
    have fits2 := relayAll_fits nt ns (SetTable.grown ns.size)
    have ris2 := relayAll_ris nt ns (SetTable.grown ns.size)
    have led2 := relayAll_led nt ns (SetTable.grown ns.size)
    have many : (relayAll nt ns (SetTable.grown ns.size)).1.size = ns.size := by
      have z := perm.length_eq
      rwa [Array.length_toList, Array.length_toList] at z
    refine wpAny_bind (quiet _ _ _ (wpAny_bind (wpAny_storeSet_of at1 rfl (wpAny_pure (hR _ (but1.trans (Heap.SameBut.update _ a _)) ⟨_, _, _, _, store_at at1 rfl, ex, rfl, fun e he => each e (perm.mem_iff.mp he), (perm.map textOf).nodup_iff.mpr once, fun z => ((perm.map textOf).mem_iff).trans (mem z), ?_, fits2, ris2, ?_⟩)) (fits_of_scanBound ?_))))
    · rw [many]
      exact small
    · rw [led2]
      exact led
    · rw [many]
      exact small
theorem txt_add {z : Str} {t : Tok} {zs : List Str} {Q : Bool → Shared → Prop} (x : TxtSet P w s.heap a zs) (room : zs.length + 1 < scanBound) (hQ : ∀ b h', Heap.SameBut a s.heap h' → TxtSet P w h' a (zs ++ [z]) → Q b { s with heap := h' }) :
    wpAny (model P w) A (setAddHashed a (.str z t) ((PySem.strKind P w).hash z)) Q E s := by
  obtain ⟨o, es, ep, tb, y⟩ := x
  have el := elems_txt y.each
  have few := y.few
  unfold setAddHashed setAddHashedIn
  refine wpAny_holding (wpAny_bind (wpAny_setState_of y.here y.data y.fits ?_))
  dsimp only
  rw [byScan_of (x := .str z t) rfl y.small el]
  simp only [↓reduceIte]
  unfold setAddByScan
  refine wpAny_bind (wpAny_bind (wpAny_rule (wpAny_bind (wpAny_setScan_of (strKind_is P w z t) y.here y.data y.fits el ?_))))
  cases found : es.toList.findIdx? (fun e => (PySem.strKind P w).is z e.2) with
  | some j =>
    obtain ⟨hj, isz, _⟩ := List.findIdx?_eq_some_iff_getElem.mp found
    have inz : z ∈ zs := by
      refine (y.mem z).mp (List.mem_map.mpr ⟨es.toList[j], List.getElem_mem hj, ?_⟩)
      obtain ⟨z2, t2, e2⟩ := y.each _ (List.getElem_mem hj)
      rw [e2] at isz ⊢
      have e3 : z2 = z := by
        have y : (PySem.strKind P w).is z (.str z2 t2) = true := isz
        simpa [PySem.strKind, Value.isStrOf] using y
      exact e3
    dsimp only
    refine wpAny_pure (wpAny_pure (hQ _ s.heap (Heap.SameBut.refl a s.heap) ⟨o, es, ep, tb, { y with mem := fun v => ?_ }⟩))
    rw [y.mem v, List.mem_append, List.mem_singleton]
    exact ⟨.inl, fun h => h.elim id fun e => by rw [e]; exact inz⟩
  | none =>
    have noz : z ∉ es.toList.map textOf := fun h => by
      obtain ⟨e, he, e2⟩ := List.mem_map.mp h
      obtain ⟨z2, t2, rfl⟩ := y.each e he
      have z3 : z2 = z := e2
      have c := List.findIdx?_eq_none_iff.mp found _ he
      rw [z3] at c
      have c1 : ¬ (PySem.strKind P w).is z (entryT P w z t2).2 = true := by simpa using c
      exact c1 (strKind_is P w z t2)
    have perm := layNew_perm tb es ((PySem.strKind P w).hash z) (.str z t)
    have fits1 := layNew_fits tb es ((PySem.strKind P w).hash z) (.str z t)
    have ris1 := layNew_ris tb es ((PySem.strKind P w).hash z) (.str z t) y.ris
    have led1 := layNew_led tb es ((PySem.strKind P w).hash z) (.str z t)
    generalize layNew tb es ((PySem.strKind P w).hash z) (.str z t) = Z at perm fits1 ris1 led1 ⊢
    obtain ⟨ns, nt, dummy, gave⟩ := Z
    dsimp only at perm fits1 ris1 led1 ⊢
    rw [Array.toList_push] at perm
    have perm2 : ns.toList.Perm (entryT P w z t :: es.toList) := perm.trans (List.perm_append_singleton _ _)
    have names : (ns.toList.map textOf).Perm (z :: es.toList.map textOf) := perm2.map textOf
    have many : ns.size = es.size + 1 := by
      have q := perm2.length_eq
      rwa [Array.length_toList, List.length_cons, Array.length_toList] at q
    have quiet : ∀ (b : Bool) (s1 : Shared) (Q : Unit → Shared → Prop), Q () s1 → wpAny (model P w) A (match b with | true => rule "set.scan.the-table-gave-way" | false => pure ()) Q E s1 := fun b s1 Q q => by
      cases b
      · exact wpAny_pure q
      · exact wpAny_rule q
    have each1 : ∀ e ∈ ns.toList, ∃ z t, e = entryT P w z t := fun e he => by
      rcases List.mem_cons.mp (perm2.mem_iff.mp he) with h | h
      · exact ⟨z, t, h⟩
      · exact y.each e h
    have once1 : (ns.toList.map textOf).Nodup := names.nodup_iff.mpr (List.nodup_cons.mpr ⟨noz, y.once⟩)
    have mem1 : ∀ v, v ∈ ns.toList.map textOf ↔ v ∈ zs ++ [z] := fun v => by
      rw [names.mem_iff, List.mem_cons, y.mem v, List.mem_append, List.mem_singleton]
      exact Or.comm
    have small1 : ns.size < scanBound := by omega
    have ledN : w.params.followText "set-order" = true ∨ nt.led = true := by
      rw [led1]
      exact y.led
    refine wpAny_bind (quiet _ _ _ ?_)
    have off : ∀ c : Bool, (if c = true then nt else { nt with plain := false }).fits ns.size = true ∧ Ris (if c = true then nt else { nt with plain := false }).place.toList ∧ (w.params.followText "set-order" = true ∨ (if c = true then nt else { nt with plain := false }).led = true) := fun c => by
      cases c with
      | true => exact ⟨fits1, ris1, ledN⟩
      | false => exact ⟨SetTable.fits_plain_off fits1, ris1, ledN⟩
    split
    · refine wpAny_bind ?_
      rw [hashByValue_scannable 8 (x := .str z t) rfl]
      refine wpAny_pure ?_
      obtain ⟨o1, o2, o3⟩ := off (plainKind (.str z t))
      exact txt_store y.here y.kind y.data each1 once1 mem1 small1 o1 o2 o3 quiet fun h' sb x => wpAny_pure (hQ true h' sb x)
    · refine wpAny_bind (wpAny_pure ?_)
      obtain ⟨o1, o2, o3⟩ := off true
      exact txt_store y.here y.kind y.data each1 once1 mem1 small1 o1 o2 o3 quiet fun h' sb x => wpAny_pure (hQ true h' sb x)
end
section
variable {prog : Program} {w : World} {A : Around} {R : Result → Shared → Prop} {I : Addr} {fp wr : List Addr} {G : Array GenState → Array GenState → Prop} {n : Nat} {P : Nat → Value → Prop} {St : Nat → Shared → Prop}
theorem txs_loop (W : WalksS prog w A.in1 I fp wr G n P St) (S : Addr) (off : S ∉ fp) (ss : List Str) (len : n = ss.length) (room : n + 1 < scanBound) (val : ∀ i v, P i v → ∃ z t, ss[i]? = some z ∧ v = .str z t) :
    ∀ (m i : Nat) (s : Shared), i + m = n → St i s → TxtSet prog w s.heap S (ss.take i) →
      (∀ s', Moved (S :: wr) G s s' → TxtSet prog w s'.heap S ss → R (.ok (.ret .none)) s') →
      codeAny (model prog w) A (.builtin "set.update.loop" ⟨[.ref S, .ref I], []⟩) R s := by
  have offW : S ∉ wr := fun h => off (W.sub _ h)
  have more : ∀ b ∈ wr, b ∈ S :: wr := fun b hb => .tail _ hb
  have carry : ∀ {s1 s2 : Shared} {zs : List Str}, Moved wr G s1 s2 → TxtSet prog w s1.heap S zs → TxtSet prog w s2.heap S zs := fun mv st => st.keep fun o e => mv.heap S _ offW e
  intro m
  induction m with
  | zero =>
    intro i s him st set done
    have hin : i = n := by omega
    subst hin
    refine codeAny_builtin F.entry_set_update_loop ?_
    rw [Around.under_plainId F.plain_set_update_loop _]
    show wpAny _ A.in1 (pyNext (.ref I) >>= _) _ _ s
    refine wpAny_bind (W.done s _ _ st fun s2 mv => ?_)
    rw [List.take_of_length_le (Nat.le_of_eq len.symm)] at set
    exact wpAny_pure (done s2 (mv.mono more) (carry mv set))
  | succ m ih =>
    intro i s him st set done
    refine codeAny_builtin F.entry_set_update_loop ?_
    rw [Around.under_plainId F.plain_set_update_loop _]
    show wpAny _ A.in1 (pyNext (.ref I) >>= _) _ _ s
    refine wpAny_bind (W.item i s _ _ (by omega) st fun v s2 pv st2 mv => ?_)
    obtain ⟨z, t, hz, rfl⟩ := val i v pv
    have isz : (PySem.strKind prog w).is z (.str z t) = true := strKind_is _ _ _ _
    have few : dist (ss.take i) ≤ i := Nat.le_trans (dist_le _) (by rw [List.length_take]; omega)
    have set2 := carry mv set
    show wpAny _ A.in1 (holding [Value.str z t] (setAdd S (.str z t)) >>= _) _ _ s2
    refine wpAny_bind (wpAny_holding ?_)
    unfold setAdd
    have e1 : ss.take (i + 1) = ss.take i ++ [z] := by
      rw [List.take_add_one, hz]
      rfl
    refine wpAny_holding (wpAny_bind ((PySem.strKind prog w).pyHash (k := z) isz (txt_add (s := { s2 with toks := s2.toks + 1 }) set2 (by rw [List.length_take]; omega) fun b0 h3 same set3 => ?_)))
    have set4 : TxtSet prog w h3 S (ss.take (i + 1)) := by
      rw [e1]
      exact set3
    have keep : ∀ b o, b ≠ S → s2.heap.get? b = some o → h3.get? b = some o := fun b o hb e => (same.2 b hb).trans e
    refine wpAny_pure ⟨plainId_quiet F.plain_set_update_loop _, ih (i + 1) _ (by omega) (W.frame _ s2 _ _ st2 (Nat.le_succ _) fun b hb o e => keep b o (fun h => off (h ▸ hb)) e) set4 fun s5 mv5 set5 => ?_⟩
    exact done s5 (Moved.trans W.gtrans ((mv.mono more).then_heap (Nat.le_succ _) fun b o hb e => keep b o (fun h => hb (h ▸ List.mem_cons_self)) e) mv5) set5
end
section
variable {prog : Program} {w : World} {A : Around} {E : Value → Shared → Prop} {s : Shared}
theorem set_led {v : Value} {Q : Value → Shared → Prop} (fill : wpAny (model prog w) A.in1.in1 (Builtin.«set.__init__» ⟨[.ref s.heap.objs.size, v], []⟩)
      (fun fin s' => match fin with
        | .done f => wants (fun r s2 => r = .none ∧ Q (.ref s.heap.objs.size) s2) E (.ok f) s'
        | .again c => c.quiet = true ∧ codeAny (model prog w) A.in1 c (wants (fun r s2 => r = .none ∧ Q (.ref s.heap.objs.size) s2) E) s')
      (fun e s' => wants (fun r s2 => r = .none ∧ Q (.ref s.heap.objs.size) s2) E (.error e) s')
      { s with heap := s.heap.push { cls := .type "set", dict := none, data := .set #[] 0 (.fresh 0 0 (!w.params.followText "set-order")) } }) : wpAny (model prog w) A (call (.type "set") [v]) Q E s := by
  have ft := PySem.F.called_set
  obtain ⟨c, tl, mro⟩ := ft.mro
  have made := ft.made
  have sub := ft.sub
  have notT := ft.notType
  have can := ft.canCreate
  have okT := PySem.F.typeCall_set_1 v
  refine wpAny_call (codeAny_of_tree (show wpAny _ _ (callAny (.type "set") _) _ _ _ from wpAny_pure ⟨Code.quiet_builtin _ (by decide +kernel), codeAny_builtin PySem.F.entry_type_call ?_⟩))
  rw [Around.under_plain (weight_type_call_type "set" [v] []) rfl]
  repeat (any_goals (first | assumption | wp_step))
  refine codeAny_mono (code_set_led1 v (E := E) (Q₁ := fun obj s1 => obj = .ref s.heap.objs.size ∧ s1 = { s with heap := s.heap.push { cls := .type "set", dict := none, data := .set #[] 0 (.fresh 0 0 (!w.params.followText "set-order")) } }) ⟨rfl, rfl⟩) fun r s1 got => ?_
  cases r with
  | error e => exact got
  | ok fl =>
    cases fl with
    | ret obj =>
      obtain ⟨rfl, rfl⟩ := got
      have isSet : Shared.TypeIs { s with heap := s.heap.push { cls := .type "set", dict := none, data := .set #[] 0 (.fresh 0 0 (!w.params.followText "set-order")) } } (.ref s.heap.objs.size) "set" := ⟨_, Heap.get?_push_size _ rfl, rfl⟩
      have look := ft.init.lookup
      have bound := ft.init.bind (.ref s.heap.objs.size)
      repeat (any_goals (first | assumption | wp_step))
      refine codeAny_mono (codeAny_call_builtin ft.init.plain PySem.F.entry_set_init (check_set_init_1 isSet fill)) fun r2 s2 got2 => ?_
      cases r2 with
      | error e => exact got2
      | ok fl2 =>
        cases fl2 with
        | ret r =>
          obtain ⟨rfl, q⟩ := got2
          repeat (any_goals (first | assumption | wp_step))
        | _ => exact got2.elim
    | _ => exact got.elim
theorem set_txs {l : Addr} {items : Array Value} {ss : List Str} {Q : Value → Shared → Prop} (calm : A.handled = none) (hl : s.heap.IsList l items) (val : ∀ (i : Nat) (v : Value), items[i]? = some v → ∃ z t, ss[i]? = some z ∧ v = .str z t)
    (len : items.size = ss.length) (room : items.size + 1 < scanBound)
    (h : ∀ (h' : Heap) (tk : Nat), TxtSet prog w h' s.heap.objs.size ss → (∀ b o, s.heap.get? b = some o → h'.get? b = some o) → Q (.ref s.heap.objs.size) { s with heap := h', toks := tk }) :
    wpAny (model prog w) A (call (.type "set") [.ref l]) Q E s := by
  refine set_led ?_
  have below : (l : Nat) < s.heap.objs.size := by
    obtain ⟨o, ho, _⟩ := hl
    exact Heap.lt_size ho
  have atS : (s.heap.push { cls := .type "set", dict := none, data := .set #[] 0 (.fresh 0 0 (!w.params.followText "set-order")) }).get? s.heap.objs.size = some { cls := .type "set", dict := none, data := .set #[] 0 (.fresh 0 0 (!w.params.followText "set-order")) } := Heap.get?_push_size _ rfl
  have hl1 : (s.heap.push { cls := .type "set", dict := none, data := .set #[] 0 (.fresh 0 0 (!w.params.followText "set-order")) }).IsList l items := hl.push _
  obtain ⟨⟨oc, od, odt, osl⟩, ho1, hc1, n1, hd1⟩ := id hl1
  simp only at hc1 hd1
  subst hc1 hd1
  have no1 := PySem.F.sub_list_set
  have no2 := PySem.F.sub_list_frozenset
  have no3 : (Value.type "list" == Value.type "dict") = false := by decide
  unfold Builtin.«set.__init__» noKeywords Builtin.Frozenset.updateFrom
  generalize hPI : pyIter = PI
  wp_walk
  subst hPI
  refine wpAny_pyIter_list hl1 (wpAny_bind (wpAny_runValue ?_))
  have top1 : (s.heap.push { cls := .type "set", dict := none, data := .set #[] 0 (.fresh 0 0 (!w.params.followText "set-order")) }).objs.size = s.heap.objs.size + 1 := Heap.size_push _ _
  have calm3 : A.in1.in1.in1.handled = none := by simp [calm]
  have neI : l ≠ (s.heap.push { cls := .type "set", dict := none, data := .set #[] 0 (.fresh 0 0 (!w.params.followText "set-order")) }).objs.size := by
    rw [top1]
    exact Nat.ne_of_lt (Nat.lt_succ_of_lt below)
  have offS : s.heap.objs.size ∉ [(s.heap.push { cls := .type "set", dict := none, data := .set #[] 0 (.fresh 0 0 (!w.params.followText "set-order")) }).objs.size, l] := by
    rw [top1]
    intro z
    rcases List.mem_cons.mp z with e | e
    · exact Nat.succ_ne_self _ e.symm
    · exact absurd (List.mem_singleton.mp e) (Nat.ne_of_gt below)
  refine txs_loop ((Walks.list calm3 _ l neI items).toS) s.heap.objs.size offS ss len room val items.size 0 _ (Nat.zero_add _) ⟨⟨_, Heap.get?_push_size _ rfl, rfl, rfl⟩, hl1.push _⟩ ?empty ?filled
  case empty =>
    refine ⟨_, #[], 0, _, Heap.get?_push_of_some _ atS, ⟨rfl, rfl, rfl⟩, rfl, (fun e he => nomatch he), List.nodup_nil, fun z => Iff.rfl, by unfold scanBound; decide, rfl, List.Pairwise.nil, ?_⟩
    show _ ∨ (!w.params.followText "set-order") = true
    cases w.params.followText "set-order"
    · exact .inr rfl
    · exact .inl rfl
  case filled =>
    intro s5 mv set5
    obtain ⟨h5, g5, d5, tk5, os5⟩ := s5
    obtain rfl : g5 = s.gens := mv.gens
    obtain rfl : d5 = s.drawn := mv.drawn
    obtain rfl : os5 = s.os := mv.os
    show wpAny _ _ _ _ _ _
    refine wpAny_pure (show wpAny _ _ (ret Value.none) _ _ _ from wpAny_pure ⟨rfl, h h5 tk5 set5 fun b o e => ?_⟩)
    have lt : b < s.heap.objs.size := Heap.lt_size e
    refine mv.heap b o (fun z => ?_) (Heap.get?_push_of_some _ (Heap.get?_push_of_some _ e))
    rcases List.mem_cons.mp z with e2 | e2
    · exact absurd e2 (Nat.ne_of_lt lt)
    · rw [List.mem_singleton.mp e2, top1] at lt
      exact absurd lt (Nat.not_lt.mpr (Nat.le_succ _))
end
section
variable {X : Cx}
def tSortSet (K : PySem.W.Frag) (ta : TE) : TE := fun σ H Q => ta σ H fun x H1 => ∃ (l : Addr) (ss : List Str), x = .ref l ∧ SqL K H1 l (ss.map V.str) ∧ ss.length < 64 ∧ ∀ (ys : List Str) (p : Addr), sortedS ys = true → ys.Nodup → (∀ z, z ∈ ys ↔ z ∈ ss) → H1 p = none → Q (.ref p) (upd H1 p (.lst (ys.map V.str)))
theorem pe_sortSet {a : Expr} {ta : TE} {p p2 q pos : Pos} (hcalm : X.calm = true) (g1 : Gl X "sorted") (m1 : X.mg "sorted" = none) (g2 : Gl X "set") (m2 : X.mg "set" = none) (ha : PE X a ta)
    (one : starEach [a] X.env = (false, eval a X.env) :: starEach [] X.env := by rfl) : PE X (.Call (.Name "sorted" p) [.Call (.Name "set" p2) [a] [] q] [] pos) (tSortSet X.K ta) := by
  have bs : bootBuiltins ("sorted" : Str) = some (.builtin "sorted") := by decide +kernel
  refine ⟨fun pins s σ H Q inv h => Call_ (ld_blt inv g1 m1 bs (callWith_builtin1 (args_cons ?_ rfl) rfl rfl))⟩
  refine Call_ (ld_blt inv g2 m2 boot_set (callWith_type1 (args_cons (thn (ha.run pins s σ H _ inv h) fun v s1 ⟨x, H1, inv1, rel, l, ss, ev, sq, few, q1⟩ => args_nil ?_) one) one rfl))
  subst ev
  cases rel
  obtain ⟨its, vals, pl, _⟩ := inv1.list sq
  have len : its.toArray.size = ss.length := by rw [List.size_toArray, ← vals.length, List.length_map]
  refine set_txs (ss := ss) (inv1.ok.hd hcalm) pl.isList (fun i v e => ?_) len (by rw [len]; unfold scanBound; omega) fun h' tk set kept => args_nil ?_
  · have e' : its[i]? = some v := by simpa using e
    have hi : i < ss.length := by
      have z := (List.getElem?_eq_some_iff.mp e').1
      rw [← len, List.size_toArray]
      exact z
    obtain ⟨u, g3, t, g4⟩ := vals.get (i := i) (x := .str ss[i]) (by simp [hi])
    rw [e'] at g3
    cases g3
    exact ⟨ss[i], t, List.getElem?_eq_getElem hi, g4⟩
  · obtain ⟨o, es, ep, tb, y⟩ := set
    have inv2 : Inv X pins σ H1 { s1 with heap := h', toks := tk } := inv1.kept kept
    refine Calls.call_function_entry kind_sorted plain_sorted entry_sorted (args_sorted1 _) (wpAny_bind (m := checkCount "sorted" 1 1 _) (wpAny_pure
      (wpAny_bind (collect_set (A := X.A.in1) (inv1.ok.hd hcalm) ⟨o, y.here, y.kind.1, y.data⟩ y.fits y.small y.ris y.led fun s3 out keep3 grow3 gens3 os3 perm3 => ?_))))
    have form : ∀ v ∈ out, ∃ z t, v = .str z t ∧ textOf (0, v) = z := fun v hv => by
      obtain ⟨e, he, e2⟩ := List.mem_map.mp (perm3.mem_iff.mp hv)
      obtain ⟨z, t, rfl⟩ := y.each e he
      exact ⟨z, t, e2.symm, by rw [← e2]; rfl⟩
    have rels : Vals ((out.map fun v => textOf (0, v)).map V.str) out := by
      have key : ∀ l : List Value, (∀ v ∈ l, ∃ z t, v = .str z t ∧ textOf (0, v) = z) → Vals ((l.map fun v => textOf (0, v)).map V.str) l := by
        intro l
        induction l with
        | nil => exact fun _ => .nil
        | cons v r ih =>
          intro h
          obtain ⟨z, t, e1, e2⟩ := h v List.mem_cons_self
          refine .cons ?_ (ih fun u hu => h u (List.mem_cons_of_mem _ hu))
          show RelV (V.str (textOf (0, v))) v
          rw [e2, e1]
          exact ⟨t, rfl⟩
      exact key out form
    have names : (out.map fun v => textOf (0, v)).Perm (es.toList.map textOf) := by
      have z := perm3.map fun v => textOf (0, v)
      rw [List.map_map] at z
      exact z
    have few2 : out.length < 64 := by
      have z : out.length = es.size := perm3.length_eq.trans ((List.length_map ..).trans Array.length_toList)
      have z2 := y.few
      exact Nat.lt_of_le_of_lt (by rw [z]; exact z2) few
    have txt : StrsAre out (out.map fun v => textOf (0, v)) := rels.strs
    have fitsO : out.length ≤ sizeLine := small64 few2
    refine wpAny_bind (wpAny_newList ?_ fitsO)
    have lst : (s3.heap.push (seqObj "list" out.toArray 0)).get? s3.heap.objs.size = some (seqObj "list" out.toArray 0) := Heap.get?_push_size _ rfl
    refine wpAny_bind (wpAny_holding (wpAny_call_entry slot_list_sort ⟨_, lst, rfl⟩ entry_list_sort (list_sort_treeK strKind_oneLt (s := { s3 with heap := s3.heap.push (seqObj "list" out.toArray 0) }) lst txt.keysOf
      (fun v1 v2 rest e => keyKind_strs (by rw [← e]; exact txt)) few2 fun st perm ord => ⟨_, rfl, ?_⟩) (args_list_sort _)))
    obtain ⟨ys, are, permS, ordS⟩ := sorted_out_str txt perm ord
    obtain ⟨ep5, at5⟩ := sortedHeap_at (vs := out) (out := (arrOf st).map (·.2)) lst
    have lys : (ys.map V.str).length ≤ sizeLine := by
      rw [List.length_map, permS.length_eq, List.length_map]
      exact small64 few2
    have fresh : s1.heap.objs.size ≤ s3.heap.objs.size := by
      have z := Heap.lt_size y.here
      exact Nat.le_trans (Nat.le_of_lt z) grow3
    have stay : ∀ b u, h'.get? b = some u → (sortedHeap (s3.heap.push (seqObj "list" out.toArray 0)) s3.heap.objs.size out ((arrOf st).map (·.2))).get? b = some u := fun b u e => by
      have e3 := keep3 b u e
      have lt : b < s3.heap.objs.size := Heap.lt_size e3
      rw [sortedHeap_old (Nat.ne_of_lt lt) (by rw [size_push']; exact Nat.lt_succ_of_lt lt)]
      exact Heap.get?_push_of_some _ e3
    have new : H1 s3.heap.objs.size = none := inv2.hok.fresh grow3
    refine wpAny_pure ⟨_, rfl, .ref s3.heap.objs.size, upd H1 s3.heap.objs.size (.lst (ys.map V.str)), ?_, rfl, q1 ys _ ordS ((permS.trans names).nodup_iff.mpr y.once) (fun z => ((permS.trans names).mem_iff).trans (y.mem z)) new⟩
    refine inv2.call' (ch := []) os3 (Un.laid stay grow3 new) (inv2.hok.laid stay grow3 (show ObjOk X.prog X.w _ _ _ (.lst (ys.map V.str)) from ⟨lys, _, ep5, vals_of_strs are, by rw [Array.toArray_toList]; exact at5⟩)) ?_ fun _ z => nomatch z
    show AllBare s3.gens
    rw [gens3]
    exact inv2.bare
end
end Lt

set_option Elab.async false
set_option linter.all false
set_option maxRecDepth 100000
set_option maxHeartbeats 4000000
namespace Lt
open PySem PySem.Spec PyProof.Rows L2
/-! ### wants, as data -/
def wholeD : PyData → Bool
  | .int _ => true
  | _ => false
def fewD : PyData → Bool
  | .int k => decide (1 ≤ k) && decide (k ≤ 4)
  | _ => false
def wantD : PyData → Bool
  | .tuple [n, m] => nameD n && fewD m
  | _ => false
def pairs_ (ds : List PyData) : List (Str × Int) := ds.filterMap fun d => match d with
  | .tuple [.str z, .int k] => some (z, k)
  | _ => none
def wantsD : PyData → Bool
  | .tuple ds => decide (1 ≤ ds.length) && decide (ds.length ≤ 5) && ds.all wantD && decide (((pairs_ ds).map (·.1)).Pairwise ltS) && decide (((pairs_ ds).map (·.2)).sum ≤ 7)
  | _ => false
theorem wantsD_tup (ds : List PyData) : wantsD (.tuple ds) = (decide (1 ≤ ds.length) && decide (ds.length ≤ 5) && ds.all wantD && decide (((pairs_ ds).map (·.1)).Pairwise ltS) && decide (((pairs_ ds).map (·.2)).sum ≤ 7)) := rfl
theorem wants_no {d : PyData} (h : ∀ ds, d ≠ .tuple ds) : wantsD d = false := by
  cases d with
  | tuple ds => exact absurd rfl (h ds)
  | _ => rfl
theorem want_no {d : PyData} (h : ∀ ds, d ≠ .tuple ds) : wantD d = false := by
  cases d with
  | tuple ds => exact absurd rfl (h ds)
  | _ => rfl
theorem want_two {ds : List PyData} (h : ds.length ≠ 2) : wantD (.tuple ds) = false := by
  match ds, h with
  | [], _ => rfl
  | [_], _ => rfl
  | [_, _], h => exact absurd rfl h
  | _ :: _ :: _ :: _, _ => rfl
theorem few_int {d : PyData} (h : fewD d = true) : ∃ k : Int, d = .int k ∧ 1 ≤ k ∧ k ≤ 4 := by
  cases d with
  | int k =>
    have z : (decide (1 ≤ k) && decide (k ≤ 4)) = true := h
    rw [Bool.and_eq_true] at z
    exact ⟨k, rfl, of_decide_eq_true z.1, of_decide_eq_true z.2⟩
  | _ => cases h
theorem want_is {d : PyData} (h : wantD d = true) : ∃ (z : Str) (k : Int), d = .tuple [.str z, .int k] ∧ nameD (.str z) = true ∧ 1 ≤ k ∧ k ≤ 4 := by
  cases d with
  | tuple ds =>
    match ds, h with
    | [n, m], h =>
      have y : (nameD n && fewD m) = true := h
      rw [Bool.and_eq_true] at y
      obtain ⟨z, rfl⟩ := name_str y.1
      obtain ⟨k, rfl, k1, k2⟩ := few_int y.2
      exact ⟨z, k, rfl, y.1, k1, k2⟩
  | _ => cases h
theorem pairs_all : ∀ {ds : List PyData}, (∀ d ∈ ds, wantD d = true) → ds = (pairs_ ds).map fun p => .tuple [.str p.1, .int p.2]
  | [], _ => rfl
  | d :: r, h => by
    obtain ⟨z, k, rfl, _⟩ := want_is (h d List.mem_cons_self)
    have ih := pairs_all fun d hd => h d (List.mem_cons_of_mem _ hd)
    show _ = PyData.tuple [.str z, .int k] :: (pairs_ r).map _
    rw [← ih]
theorem pairs_want {ds : List PyData} (h : ∀ d ∈ ds, wantD d = true) : ∀ p ∈ pairs_ ds, nameD (.str p.1) = true ∧ 1 ≤ p.2 ∧ p.2 ≤ 4 := fun p hp => by
  have e := pairs_all h
  have m : (PyData.tuple [.str p.1, .int p.2]) ∈ ds := by
    rw [e]
    exact List.mem_map.mpr ⟨p, hp, rfl⟩
  obtain ⟨z, k, e2, h1, h2, h3⟩ := want_is (h _ m)
  cases e2
  exact ⟨h1, h2, h3⟩
theorem name_ok {z : Str} (h : nameD (.str z) = true) : PyData.strOk z = true := by
  rw [nameD_str] at h
  rw [Bool.and_eq_true] at h
  show z.cps.all (fun c => decide (c < 0x110000)) = true
  rw [Array.all_eq_true']
  intro c hc
  have y := List.all_eq_true.mp h.2 c (by simpa using hc)
  unfold small at y
  rw [Bool.and_eq_true] at y
  have y2 := of_decide_eq_true y.2
  exact decide_eq_true (by omega)
theorem rise_iff {l ys : List Str} (so : sortedS ys = true) (nd : ys.Nodup) (m : ∀ z, z ∈ ys ↔ z ∈ l) : decide (l = ys) = decide (l.Pairwise ltS) := by
  rw [decide_eq_decide]
  constructor
  · rintro rfl
    have p := sorted_pw so
    exact (p.and nd).imp fun {a b} h => Classical.byContradiction fun c => h.2 (ltS_tri c h.1)
  · intro p
    have nl : l.Nodup := p.imp fun {a b} (h : ltS a b) (e : a = b) => ltS_irrefl a (by rw [← e] at h; exact h)
    have q : l.Perm ys := (List.perm_ext_iff_of_nodup nl nd).mpr fun z => (m z).symm
    exact sorted_one (pw_sorted p) so q
end Lt
namespace Lt
open PySem L2
theorem bl_same2 {p : Prop} [Decidable p] (h : p) : V.bl (!decide p) = V.bl false := by
  rw [decide_eq_true h]
  rfl
theorem bl_not2 {p : Prop} [Decidable p] (h : ¬ p) : V.bl (!decide p) = V.bl true := by
  rw [decide_eq_false h]
  rfl
end Lt

set_option Elab.async false
set_option linter.all false
set_option maxRecDepth 100000
set_option maxHeartbeats 4000000
namespace Lt
open PySem PySem.Spec PyProof.Rows L2
section
variable {P : Program} {w : World} {K : PySem.W.Frag} {mg : Str → Option Value} {base : Heap} {X : Cx}
def top (i : Nat) : Stmt := PySem.Challenge.pw_laidontop_k01_piles_and_wants_known.main.body.getD i (.Pass ⟨0, 0, 0, 0⟩)
abbrev sIsName : Stmt := top 2
abbrev sWhole : Stmt := top 3
abbrev sIsPile : Stmt := top 6
abbrev sAreWants : Stmt := top 11
abbrev sIsWant : Stmt := top 12
abbrev sRise : Stmt := top 13
abbrev sDraw : Stmt := top 15
abbrev sLWhole : Stmt := top 16
abbrev sWithin : Stmt := top 17
abbrev sLike : Stmt := top 18
abbrev sOrder : Stmt := top 19
abbrev sSpoilt : Stmt := top 20
abbrev sRises : Stmt := top 21
abbrev sLName : Stmt := top 22
abbrev sAny : Stmt := top 23
abbrev sBooks : Stmt := top 24
abbrev sPile : Stmt := top 25
abbrev sWants : Stmt := top 26
abbrev sLPile : Stmt := top 27
abbrev sLWants : Stmt := top 28
abbrev sLaw : Stmt := top 29
theorem scDraw : FnScope ["tape", "many", "prime", "cell", "found"] ["tape", "many"] (defScope sDraw) := ⟨rfl, rfl, rfl, by decide +kernel, rfl, by decide +kernel, by decide +kernel⟩
theorem ok_draw {f : Addr} {fd : FuncData} (F : Fun K "_law_draw" "_law_draw" sDraw f fd) (ml : mg "len" = none) : FnOk P w K mg base CX0 1 f fd ["tape", "many"] spDraw := by
  refine F.ok scDraw (fun vs H Q E h => ?_) (fun cdv A outer s H vs Q E hr h => ?_)
  · obtain ⟨T, S, ns, m, rfl, _⟩ := h
    rfl
  obtain ⟨T, S, ns, m, rfl, tp, m0, m1, q⟩ := h
  obtain ⟨i, c, hT⟩ := tp.at_
  have hS := tp.scr
  refine ⟨_, pss_cons (ps_set (i := 2) scDraw.nd rfl (.inl rfl) pe_int)
    (Evl.pss_cut (ps_if (pt_cmpR op_lt (pe_ix ix_list (pv 0) pe_int (fun _ _ => rfl)) (pv 1) (nomark _))
      (pss_cons (ps_set (i := 3) scDraw.nd rfl (.inl rfl) pe_int)
      (Evl.pss_cut (ps_if (pt_cmpR op_gt (pe_callB call_len_seq (by rfl) ml PySem.boot_len (pa_cons (pe_ix ix_list (pv 0) pe_int (fun _ _ => rfl)) pa_nil)) pe_int (nomark _))
        (pss_one (ps_set (i := 3) scDraw.nd rfl (.inl rfl) (pe_ix ix_list (pe_ix ix_list (pv 0) pe_int (fun _ _ => rfl))
          (pe_op op_mod (pe_ix ix_list (pv 0) pe_int (fun _ _ => rfl)) (pe_callB call_len_seq (by rfl) ml PySem.boot_len (pa_cons (pe_ix ix_list (pv 0) pe_int (fun _ _ => rfl)) pa_nil))) (fun _ _ => rfl)))) pss_nil)
      (Evl.pss_cut (ps_if (PW.pt (pw_or (pt_cmpR op_ge (pe_ix ix_list (pv 0) pe_int (fun _ _ => rfl)) (pe_callB call_len_seq (by rfl) ml PySem.boot_len (pa_cons (pe_ix ix_list (pv 0) pe_int (fun _ _ => rfl)) pa_nil)) (nomark _))
          (pw_or1 (pt_cmpR op_lt (pv 3) (pe_op op_pow pe_int pe_int) (nomark _)))))
        (pss_cons (ps_set (i := 3) scDraw.nd rfl (.inl rfl) (pe_op op_mod (pe_op op_add (pv 3) (pe_op op_mul pe_int (pe_ix ix_list (pv 0) pe_int (fun _ _ => rfl)))) (pv 2)))
        (pss_cons (ps_set (i := 3) scDraw.nd rfl (.inl rfl) (pe_op op_mod (pe_op op_add (pe_op op_add (pe_op op_mul (pv 3) (pv 3)) (pe_op op_mul pe_int (pv 3))) pe_int) (pv 2)))
        (pss_one (ps_set (i := 3) scDraw.nd rfl (.inl rfl) (pe_op op_mod (pe_op op_add (pe_op op_mul (pv 3) (pv 3)) pe_int) (pv 2)))))) pss_nil)
      (pss_cons (ps_asg (pe_op op_add (pe_ix ix_list (pv 0) pe_int (fun _ _ => rfl)) pe_int) (pg_sub (pv 0) pe_int set_list))
      (pss_one (ps_asg (pv 3) (pg_sub (pv 0) pe_int set_list))))))) pss_nil)
    (pss_cons (ps_set (i := 4) scDraw.nd rfl (.inl rfl) (pe_op op_mod (pe_ix ix_list (pv 0) pe_int (fun _ _ => rfl)) (pv 1)))
    (pss_cons (ps_asg (pe_op op_fdivW (pe_ix ix_list (pv 0) pe_int (fun _ _ => rfl)) (pv 1)) (pg_sub (pv 0) pe_int set_list))
    (pss_one (ps_ret (pv 4)))))), ?_⟩
  have lenE : ((ns.map V.int).length : Int) = ns.length := by rw [List.length_map]
  refine ⟨fun σ H' => ∃ (y3 : Option V) (i' c' : Int), σ = [some (.ref T), some (.int m), some (.int 2305843009213693951), y3, none] ∧ H' = upd H T (.lst [.ref S, .int i', .int c']), ?_, ?_⟩
  · refine ⟨_, rfl, T, _, 2, _, rfl, rfl, sql hT, rfl, _, rfl, _, _, rfl, rfl, _, rfl, ite2 (fun _ => ?_) (fun _ => ?_)⟩
    · -- the cell
      refine ⟨fun σ H' => ∃ c0 : Int, σ = [some (.ref T), some (.int m), some (.int 2305843009213693951), some (.int c0), none] ∧ H' = H, ?_, ?_⟩
      · refine ⟨_, rfl, T, _, 0, _, rfl, rfl, sql hT, rfl, S, _, rfl, .inl (sql hS), _, _, rfl, rfl, _, rfl, ite2 (fun g => ?_) (fun _ => ?_)⟩
        · have g1 : (0 : Int) < ((ns.map V.int).length : Int) := of_decide_eq_true g
          rw [lenE] at g1
          have e0 : 0 ≤ i % (ns.length : Int) := Int.emod_nonneg _ (by omega)
          have e1 : i % (ns.length : Int) < (ns.length : Int) := Int.emod_lt_of_pos _ g1
          have hk : (i % (ns.length : Int)).toNat < ns.length := by omega
          refine ⟨_, rfl, T, _, 0, _, rfl, rfl, sql hT, rfl, _, rfl, T, _, 1, _, rfl, rfl, sql hT, rfl, _, rfl, T, _, 0, _, rfl, rfl, sql hT, rfl, S, _, rfl, .inl (sql hS), _, _, rfl, rfl, ?_, S, _, _, .int ns[(i % (ns.length : Int)).toNat], rfl, rfl, sql hS, ?_, ?_⟩
          · show (0 : Int) < ((ns.map V.int).length : Int)
            rw [lenE]
            exact g1
          · show atI (ns.map V.int) (i % ((ns.map V.int).length : Int)) = _
            rw [lenE]
            exact at_of (j := (i % (ns.length : Int)).toNat) (by omega) (by rw [List.getElem?_map, List.getElem?_eq_getElem hk]; rfl)
          · exact ⟨_, rfl, rfl⟩
        · exact ⟨_, rfl, rfl⟩
      · rintro σ' H' ⟨c0, rfl, rfl⟩
        refine ⟨fun σ H2 => ∃ c1 : Int, σ = [some (.ref T), some (.int m), some (.int 2305843009213693951), some (.int c1), none] ∧ H2 = H', ?_, ?_⟩
        · refine ⟨_, rfl, T, _, 1, _, rfl, rfl, sql hT, rfl, _, rfl, T, _, 0, _, rfl, rfl, sql hT, rfl, S, _, rfl, .inl (sql hS), _, _, rfl, rfl, _, rfl, ?_⟩
          have near : ∀ x : Int, -(2 ^ 64) < x % 2305843009213693951 ∧ x % 2305843009213693951 < 2 ^ 64 := fun x => by
            have a1 := Int.emod_nonneg x (b := 2305843009213693951) (by decide)
            have a2 := Int.emod_lt_of_pos x (b := 2305843009213693951) (by decide)
            omega
          refine ite2 (fun _ => ?_) (fun _ => ⟨_, rfl, _, _, rfl, rfl, ⟨by decide, by decide, by decide⟩, _, _, rfl, rfl, _, rfl, ite2 (fun _ => ?_) (fun _ => ?_)⟩)
          · refine iteT ⟨_, rfl, _, rfl, T, _, 1, _, rfl, rfl, sql hT, rfl, _, _, rfl, rfl, .inl ⟨by decide, by decide⟩, _, _, rfl, rfl, _, rfl, _, _, rfl, rfl, (by decide : (0 : Int) < 2305843009213693951), ?_⟩
            refine ⟨_, rfl, _, rfl, _, _, rfl, rfl, .inl (near _), _, rfl, _, _, rfl, rfl, .inl ⟨by decide, by decide⟩, _, _, rfl, rfl, _, _, rfl, rfl, _, rfl, _, _, rfl, rfl, (by decide : (0 : Int) < 2305843009213693951), ?_⟩
            refine ⟨_, rfl, _, rfl, _, _, rfl, rfl, .inl (near _), _, _, rfl, rfl, _, rfl, _, _, rfl, rfl, (by decide : (0 : Int) < 2305843009213693951), ?_⟩
            exact ⟨_, rfl, rfl⟩
          · refine ⟨_, rfl, _, rfl, T, _, 1, _, rfl, rfl, sql hT, rfl, _, _, rfl, rfl, .inl ⟨by decide, by decide⟩, _, _, rfl, rfl, _, rfl, _, _, rfl, rfl, (by decide : (0 : Int) < 2305843009213693951), ?_⟩
            refine ⟨_, rfl, _, rfl, _, _, rfl, rfl, .inl (near _), _, rfl, _, _, rfl, rfl, .inl ⟨by decide, by decide⟩, _, _, rfl, rfl, _, _, rfl, rfl, _, rfl, _, _, rfl, rfl, (by decide : (0 : Int) < 2305843009213693951), ?_⟩
            refine ⟨_, rfl, _, rfl, _, _, rfl, rfl, .inl (near _), _, _, rfl, rfl, _, rfl, _, _, rfl, rfl, (by decide : (0 : Int) < 2305843009213693951), ?_⟩
            exact ⟨_, rfl, rfl⟩
          · exact ⟨_, rfl, rfl⟩
        · rintro σ' H2 ⟨c1, rfl, rfl⟩
          refine ⟨_, rfl, T, _, 1, _, rfl, rfl, sql hT, rfl, _, _, rfl, rfl, _, rfl, T, _, 1, 1, rfl, rfl, hT, rfl, ?_⟩
          refine ⟨_, rfl, _, rfl, T, _, 2, 2, rfl, rfl, upd_same, rfl, ?_⟩
          exact ⟨_, _, _, rfl, by rw [upd_upd]; rfl⟩
    · exact ⟨none, i, c, rfl, (upd_self hT).symm⟩
  · rintro σ' H' ⟨y3, i', c', rfl, rfl⟩
    refine ⟨_, rfl, T, _, 2, _, rfl, rfl, sql upd_same, rfl, _, rfl, _, _, rfl, rfl, m0, ?_⟩
    refine ⟨_, rfl, T, _, 2, _, rfl, rfl, sql upd_same, rfl, _, rfl, _, _, rfl, rfl, ⟨by omega, log_of m0 m1⟩, _, rfl, T, _, 2, 2, rfl, rfl, upd_same, rfl, ?_⟩
    refine ⟨_, rfl, ?_⟩
    rw [upd_upd]
    exact q _ _ _ (Int.emod_nonneg _ (by omega)) (Int.emod_lt_of_pos _ m0)
theorem scOrder : FnScope ["tape", "many", "found", "k"] ["tape", "many"] (defScope sOrder) := ⟨rfl, rfl, rfl, by decide +kernel, rfl, by decide +kernel, by decide +kernel⟩
theorem ok_order {f : Addr} {fd : FuncData} (F : Fun K "_law_any_order" "_law_any_order" sOrder f fd) (B : Bi mg) (cD : Has P w K mg base 1 "_law_draw" ["tape", "many"] spDraw) :
    FnOk P w K mg base CX0 2 f fd ["tape", "many"] spOrder := by
  refine F.ok scOrder (fun vs H Q E h => ?_) (fun cdv A outer s H vs Q E hr h => ?_)
  · obtain ⟨T, S, ns, m, rfl, _⟩ := h
    rfl
  obtain ⟨T, S, ns, n, rfl, tp, n1, q⟩ := h
  refine ⟨_, pss_cons (ps_set (i := 2) scOrder.nd rfl (.inl rfl) (pe_lst pa_nil))
    (pss_cons (ps_for PassesOwn.never rfl (pi_range1 (by rfl) B.range (pa_cons (pv 1) pa_nil)) (pg_name (i := 3) scOrder.nd rfl (.inl rfl))
      (pss_one (ps_expr (pe_bm PySem.F.plainAttrs_list PySem.F.slot_list_insert PySem.F.type_list_insert mt_insert (pv 2)
        (pa_cons (pe_go cD hr (Nat.le_refl _) rfl (pa_cons (pv 0) (pa_cons (pe_op op_add (pv 3) pe_int) pa_nil))) (pa_cons (pv 3) pa_nil))))))
    (pss_one (ps_ret (pe_callTy call_tuple_of (by rfl) B.tuple (by decide +kernel) (pa_cons (pv 2) pa_nil))))), ?_⟩
  refine ⟨Nat.zero_le _, fun L hL => ?_⟩
  obtain ⟨oT, hT⟩ := tp.taken
  have nLT : L ≠ T := new_ne hT hL
  refine ⟨_, rfl, (n : Int), rfl, by omega, by omega, for_range (lo := 0) (n := (n : Int).toNat) (fun i σ H' => ∃ (y3 : Option V) (qs : List Nat), σ = [some (.ref T), some (.int n), some (.ref L), y3] ∧ SameT T H H' ∧ Tape H' T S ns ∧ H' L = some (.lst (qs.map natV)) ∧ qs.Perm (List.range i))
    ⟨none, [], rfl, SameT.of (same_new hL _), tp.same (same_new hL _), upd_same, List.Perm.refl _⟩ ?_ ?_⟩
  · rintro i σ H' hi ⟨y3, qs, rfl, sm, tp', hL', pm⟩
    have lq : qs.length = i := by rw [pm.length_eq, List.length_range]
    have hi' : i < n := by omega
    refine ⟨_, rfl, .inl ⟨rfl, _, sql hL'⟩, _, rfl, _, rfl, _, _, rfl, rfl, T, S, ns, _, rfl, tp', by omega, by omega, fun r a c r0 r1 => ?_⟩
    have hL2 : upd H' T (.lst [.ref S, .int a, .int c]) L = some (.lst (qs.map natV)) := by
      rw [upd_ne nLT]
      exact hL'
    refine ⟨_, rfl, L, _, r, _, rfl, rfl, hL2, ?_, r0, by omega, ?_⟩
    · rw [List.length_map, lq]
      exact small1000 (by omega)
    · refine ⟨_, qs.take r.toNat ++ [i] ++ qs.drop r.toNat, rfl, fun b o nb hb => ?_, ?_, ?_, ?_⟩
      · rw [upd_ne (ne_of_none hb hL)]
        exact sameT_put _ b o nb (sm b o nb hb)
      · have t2 := tp'.put a c
        obtain ⟨x1, x2, t3⟩ := t2.at_
        refine ⟨⟨x1, x2, by rw [upd_ne nLT.symm]; exact t3⟩, ?_⟩
        rw [upd_ne (ne_of_none tp.scr hL)]
        exact t2.scr
      · rw [upd_same, List.map_append, List.map_append, List.map_take, List.map_drop, List.map_singleton]
        rw [show natV i = V.int (0 + (i : Int)) by rw [Int.zero_add]]
      · rw [List.range_succ]
        have e : (qs.take r.toNat ++ [i] ++ qs.drop r.toNat).Perm (qs.take r.toNat ++ qs.drop r.toNat ++ [i]) := by
          rw [List.append_assoc, List.append_assoc]
          exact List.Perm.append_left _ List.perm_append_comm
        rw [List.take_append_drop] at e
        exact e.trans (pm.append_right _)
  · rintro σ H' ⟨y3, qs, rfl, sm, tp', hL', pm⟩
    refine ⟨_, rfl, L, _, rfl, .inl ⟨sql hL', fun p hp => ?_⟩⟩
    have np : H p = none := by
      refine sm.free ?_ hp
      obtain ⟨o2, h2⟩ := tp'.taken
      exact new_ne h2 hp
    rw [Int.toNat_natCast] at pm
    exact q p _ qs (sm.trans (SameT.of (same_new hp _))) (tp'.same (same_new hp _)) np upd_same pm
theorem scBooks : FnScope [] [] (defScope sBooks) := ⟨rfl, rfl, rfl, by decide +kernel, rfl, by decide +kernel, by decide +kernel⟩
theorem ok_books {f : Addr} {fd : FuncData} (F : Fun K "_law_books" "_law_books" sBooks f fd) : FnOk P w K mg base CX0 1 f fd [] spBooks := by
  refine F.ok scBooks (fun vs H Q E h => ?_) (fun cdv A outer s H vs Q E hr h => ?_)
  · obtain ⟨rfl, _⟩ := h
    rfl
  obtain ⟨rfl, q⟩ := h
  refine ⟨_, pss_one (ps_ret (pe_lst (pa_cons pe_str (pa_cons pe_str (pa_cons pe_str (pa_cons pe_str (pa_cons pe_str (pa_cons pe_str (pa_cons pe_str pa_nil))))))))), ?_⟩
  exact ⟨(by show 7 ≤ sizeLine; decide), fun p hp => q p hp⟩
theorem scPile : FnScope ["tape", "size", "some", "at"] ["tape", "size"] (defScope sPile) := ⟨rfl, rfl, rfl, by decide +kernel, rfl, by decide +kernel, by decide +kernel⟩
theorem ok_pile {f : Addr} {fd : FuncData} (F : Fun K "_law_pile" "_law_pile" sPile f fd) (B : Bi mg) (cD : Has P w K mg base 1 "_law_draw" ["tape", "many"] spDraw)
    (cO : Has P w K mg base 2 "_law_any_order" ["tape", "many"] spOrder) (cB : Has P w K mg base 1 "_law_books" [] spBooks) :
    FnOk P w K mg base CX0 3 f fd ["tape", "size"] spPile := by
  refine F.ok scPile (fun vs H Q E h => ?_) (fun cdv A outer s H vs Q E hr h => ?_)
  · obtain ⟨T, S, ns, m, rfl, _⟩ := h
    rfl
  obtain ⟨T, S, ns, m, rfl, tp, m0, m7, q⟩ := h
  refine ⟨_, pss_cons (ps_set (i := 2) scPile.nd rfl (.inr rfl) (pe_slice sl_list (pe_go0 cB hr (by decide) rfl) po_none (po_some (pe_op op_add pe_int (pe_go cD hr (by decide) rfl (pa_cons (pv 0) (pa_cons (pv 1) pa_nil)))))))
    (pss_one (ps_ret (pe_callTy call_tupleZ (by rfl) B.tuple (by decide +kernel) (pa_cons
      (pe_lc (own := [("at", 3)]) (g := gName 3) (tt := tYes) (by rfl) scPile.nd (pi_tup (pe_go cO hr (by decide) rfl (pa_cons (pv 0) (pa_cons (pe_callB call_len_seq (by rfl) B.len PySem.boot_len (pa_cons (pv 2) pa_nil)) pa_nil))))
        (blkOk_by (own := [("at", 3)]) (N := ["tape", "size", "some", "at"]) (sc := defScope sPile) (by decide +kernel))
        (fun _ _ _ _ _ => pg_name (i := 3) scPile.nd rfl (Or.inl rfl)) (fun _ _ _ _ _ => pts_nil) (fun _ _ _ _ _ => pe_ix (ixL (K := K) rfl) (pv 2) (pv 3) (fun _ _ => rfl))) pa_nil)))), ?_⟩
  refine ⟨rfl, fun b hb => ?_⟩
  have tp1 := tp.same (same_new hb (.lst (books.map V.str)))
  refine ⟨_, rfl, _, rfl, T, S, ns, m, rfl, tp1, m0, by omega, fun r a c r0 r1 => ?_⟩
  have nbT : b ≠ T := by
    obtain ⟨o, ho⟩ := tp.taken
    exact new_ne ho hb
  refine ⟨_, _, rfl, rfl, _, rfl, b, _, rfl, sql (by rw [upd_ne nbT]; exact upd_same), fun y hy => ?_⟩
  have tp2 := tp1.put a c
  have tp3 := tp2.same (same_new hy (.lst (cutV (books.map V.str) none (some (1 + r)))))
  have er : (1 + r : Int) = (((r.toNat + 1 : Nat)) : Int) := by omega
  have hn7 : r.toNat + 1 ≤ 7 := by omega
  have ecut : cutV (books.map V.str) none (some (1 + r)) = (books.take (r.toNat + 1)).map V.str := by
    rw [er, cut_to (by show _ ≤ 7; omega), List.map_take]
  have elen : (books.take (r.toNat + 1)).length = r.toNat + 1 := by
    rw [List.length_take]
    show min (r.toNat + 1) 7 = _
    omega
  rw [ecut] at tp3 ⊢
  generalize hbs : books.take (r.toNat + 1) = bs0 at tp3 elen ⊢
  generalize hH3 : upd (upd (upd H b (.lst (books.map V.str))) T (.lst [.ref S, .int a, .int c])) y (.lst (bs0.map V.str)) = H3 at tp3 ⊢
  have sm3 : SameT T H H3 := by
    rw [← hH3]
    exact (SameT.of (same_new hb _)).trans ((sameT_put _).trans (SameT.of (same_new hy _)))
  have hy3 : H3 y = some (.lst (bs0.map V.str)) := by
    rw [← hH3]
    exact upd_same
  have nyT : y ≠ T := new_ne upd_same hy
  refine ⟨_, rfl, _, rfl, y, _, rfl, .inl (sql hy3), T, S, ns, (bs0.map V.str).length, rfl, tp3, by rw [List.length_map, elen]; omega, fun t H4 qs sm4 tp4 nt ht pm => ?_⟩
  rw [List.length_map, elen] at pm
  have lq : qs.length = r.toNat + 1 := by rw [pm.length_eq, List.length_range]
  have hy4 : H4 y = some (.lst (bs0.map V.str)) := sm4 _ _ nyT hy3
  refine ⟨t, rfl, ⟨_, sqt ht⟩, fun D hD => lc_tup (K := K) (a := t) (xs := qs.map natV) (fun i H' => SameT D H4 H' ∧ H' D = some (.lst (((pick bs0 qs).take i).map V.str)))
    ⟨SameT.of (same_new hD _), upd_same⟩ (fun i H' _ h' => sqt (h'.1 _ _ (ne_of_none ht hD) ht)) ?_ ?_⟩
  · rintro i x H' hx ⟨smD, hD'⟩
    rw [List.getElem?_map] at hx
    cases e : qs[i]? with
    | none =>
      rw [e] at hx
      cases hx
    | some k =>
      rw [e] at hx
      cases hx
      have hk : k < bs0.length := by
        rw [elen]
        exact List.mem_range.mp (pm.mem_iff.mp (List.mem_of_getElem? e))
      refine ⟨rfl, _, rfl, _, rfl, y, _, _, .str bs0[k], rfl, rfl, sql (smD _ _ (ne_of_none hy4 hD) hy4), at_of rfl (by rw [List.getElem?_map, List.getElem?_eq_getElem hk]; rfl), _, hD', ?_, ?_⟩
      · have lp : (pick bs0 qs).length = qs.length := by
          unfold pick
          rw [List.length_map]
        rw [List.length_map, List.length_take]
        exact small1000 (by omega)
      · refine ⟨fun b' o nb h => by rw [upd_ne nb]; exact smD b' o nb h, ?_⟩
        have ep : (pick bs0 qs)[i]? = some bs0[k] := by
          unfold pick
          rw [List.getElem?_map, e]
          show some ((bs0[k]?).getD Str.empty) = _
          rw [List.getElem?_eq_getElem hk]
          rfl
        rw [upd_same, List.take_add_one, ep, List.map_append]
        rfl
  · rintro H' ⟨smD, hD'⟩
    rw [List.length_map, List.take_of_length_le (by unfold pick; rw [List.length_map]; omega)] at hD'
    refine ⟨D, _, rfl, sql hD', fun p u hp hu => ?_⟩
    have s5 : Same H4 H' := fun b' o h => smD b' o (ne_of_none h hD) h
    have tp5 := tp4.same (s5.trans (same_new hp u))
    have sm5 : SameT T H (upd H' p u) := sm3.trans (sm4.trans (SameT.of (s5.trans (same_new hp _))))
    have np : H p = none := by
      refine (sm3.trans (sm4.trans (SameT.of s5))).free ?_ hp
      obtain ⟨o2, h2⟩ := (tp4.same s5).taken
      exact new_ne h2 hp
    refine q p _ (pick bs0 qs) sm5 tp5 np (TpO.new hu) ?_ ?_
    · rw [← hbs]
      exact pile_of (by omega) hn7 pm
    · unfold pick
      rw [List.length_map, lq]
      omega
theorem scLike : FnScope ["one", "two", "k"] ["one", "two"] (defScope sLike) := ⟨rfl, rfl, rfl, by decide +kernel, rfl, by decide +kernel, by decide +kernel⟩
theorem like_step {f : Addr} {fd : FuncData} {n : Nat} (F : Fun K "_law_like" "_law_like" sLike f fd) (B : Bi mg) (cI : Has P w K mg base n "_law_like" ["one", "two"] (spLike K n)) :
    FnOk P w K mg base CX0 (n + 1) f fd ["one", "two"] (spLike K (n + 1)) := by
  refine F.ok scLike (fun vs H Q E h => ?_) (fun cdv A outer s H vs Q E hr h => ?_)
  · obtain ⟨v1, v2, d, m, _, rfl, _⟩ := h
    rfl
  obtain ⟨v1, v2, d, m, hn, rfl, h1, h2, fine, q⟩ := h
  cases hn
  refine ⟨_, pss_cons (ps_if (pt_val (pe_callB call_isiT (by rfl) B.isinstance (by decide +kernel) (pa_cons (pv 0) (pa_cons (pe_tup (pa_cons (pe_bltn (v := .ty "list") (by rfl) B.list (by decide +kernel) rfl) (pa_cons (pe_bltn (v := .ty "tuple") (by rfl) B.tuple (by decide +kernel) rfl) pa_nil))) pa_nil))))
      (pss_cons (ps_if (PW.pt (pw_or (pt_cmpR op_ne (pe_callB call_isi (by rfl) B.isinstance (by decide +kernel) (pa_cons (pv 0) (pa_cons (pe_bltn (v := .ty "list") (by rfl) B.list (by decide +kernel) rfl) pa_nil)))
            (pe_callB call_isi (by rfl) B.isinstance (by decide +kernel) (pa_cons (pv 1) (pa_cons (pe_bltn (v := .ty "list") (by rfl) B.list (by decide +kernel) rfl) pa_nil))) (nomark _))
          (pw_or1 (pt_cmpR op_ne (pe_callB call_isi (by rfl) B.isinstance (by decide +kernel) (pa_cons (pv 0) (pa_cons (pe_bltn (v := .ty "tuple") (by rfl) B.tuple (by decide +kernel) rfl) pa_nil)))
            (pe_callB call_isi (by rfl) B.isinstance (by decide +kernel) (pa_cons (pv 1) (pa_cons (pe_bltn (v := .ty "tuple") (by rfl) B.tuple (by decide +kernel) rfl) pa_nil))) (nomark _))))) (pss_one (ps_ret pe_bl)) pss_nil)
      (pss_cons (ps_if (pt_cmpR op_ne (pe_callB call_len_seq (by rfl) B.len PySem.boot_len (pa_cons (pv 0) pa_nil)) (pe_callB call_len_seq (by rfl) B.len PySem.boot_len (pa_cons (pv 1) pa_nil)) (nomark _)) (pss_one (ps_ret pe_bl)) pss_nil)
      (pss_one (ps_ret (pe_cmpR (op_eqD hr.units) (pe_lc (own := [("k", 2)]) (g := gName 2) (tt := tNot (tB (tCall (spLike K n) [] E0 (tCons (tOp (rIx K) (tVar 0) (tVar 2)) (tCons (tOp (rIx K) (tVar 1) (tVar 2)) tNil)))))
          (by rfl) scLike.nd (pi_range1 (by rfl) B.range (pa_cons (pe_callB call_len_seq (by rfl) B.len PySem.boot_len (pa_cons (pv 0) pa_nil)) pa_nil)) (blkOk_by (own := [("k", 2)]) (N := ["one", "two", "k"]) (sc := defScope sLike) (by decide +kernel))
          (fun _ _ _ _ _ => pg_name (i := 2) scLike.nd rfl (.inl rfl))
          (fun _ _ _ _ _ => pts_one (pt_not (pt_val (pe_go cI hr (Nat.le_refl _) rfl (pa_cons (pe_ix (ixS (K := K) rfl) (pv 0) (pv 2) (fun _ _ => rfl)) (pa_cons (pe_ix (ixS (K := K) rfl) (pv 1) (pv 2) (fun _ _ => rfl)) pa_nil))))))
          (fun _ _ _ _ _ => pv 2)) (pe_lst pa_nil) (nomark _)))))) pss_nil)
    (pss_cons (ps_if (pt_val (pe_callB call_isiT (by rfl) B.isinstance (by decide +kernel) (pa_cons (pv 1) (pa_cons (pe_tup (pa_cons (pe_bltn (v := .ty "list") (by rfl) B.list (by decide +kernel) rfl) (pa_cons (pe_bltn (v := .ty "tuple") (by rfl) B.tuple (by decide +kernel) rfl) pa_nil))) pa_nil)))) (pss_one (ps_ret pe_bl)) pss_nil)
    (pss_one (ps_ret (pe_and (pe_cmpR op_eq (pe_callB call_isi (by rfl) B.isinstance (by decide +kernel) (pa_cons (pv 0) (pa_cons (pe_bltn (v := .ty "bool") (by rfl) B.bool (by decide +kernel) rfl) pa_nil)))
        (pe_callB call_isi (by rfl) B.isinstance (by decide +kernel) (pa_cons (pv 1) (pa_cons (pe_bltn (v := .ty "bool") (by rfl) B.bool (by decide +kernel) rfl) pa_nil))) (nomark _)) (pe_one (pe_cmpR (op_eqD hr.units) (pv 0) (pv 1) (nomark _))))))), ?_⟩
  have cls2 : Paired ClsV [V.ty "list", V.ty "tuple"] [Value.type "list", Value.type "tuple"] := .cons (.ty _) (.cons (.ty _) .nil)
  have kinds : (∃ (T : String) (bl : Bool), (∀ H', Same H H' → TyX K H' v1 (.type T) ∧ TyX K H' v2 (.type T)) ∧ kitB T "list" = some false ∧ kitB T "tuple" = some false ∧ kitB T "bool" = some bl ∧ SeqAt.shaped d = true ∧ PyData.eqv d d = true) ∨
      ∃ (T : String) (l : Bool) (a b : Addr) (xs ys : List V) (ds : List PyData) (m : Nat), (∀ H', Same H H' → TyX K H' v1 (.type T) ∧ TyX K H' v2 (.type T)) ∧ kitB T "list" = some l ∧ kitB T "tuple" = some (!l) ∧ v1 = .ref a ∧ v2 = .ref b ∧
        (∀ H', Same H H' → SqL K H' a xs ∨ SqT K H' a xs) ∧ (∀ H', Same H H' → SqL K H' b ys ∨ SqT K H' b ys) ∧ DpAll K H xs ds ∧ DpAll K H ys ds ∧ ds.length ≤ 1000 ∧ n = m + 1 ∧ ∀ d ∈ ds, Fine m d := by
    have both : ∀ H', Same H H' → TyX K H' v1 (.type (kindName d)) ∧ TyX K H' v2 (.type (kindName d)) := fun H' s' => ⟨ty_dp (dp_same s' h1), ty_dp (dp_same s' h2)⟩
    cases d with
    | none => exact .inl ⟨"NoneType", false, both, by decide +kernel, by decide +kernel, by decide +kernel, by decide +kernel, by simp [PyData.eqv]⟩
    | bool b => exact .inl ⟨"bool", true, both, by decide +kernel, by decide +kernel, by decide +kernel, shaped_of (by simp [PyData.canLay0]) (by simp [PyData.depth]), by simp [PyData.eqv]⟩
    | int i => exact .inl ⟨"int", false, both, by decide +kernel, by decide +kernel, by decide +kernel, shaped_of (by simp [PyData.canLay0]) (by simp [PyData.depth]), by simp [PyData.eqv]⟩
    | str x =>
      have fx : PyData.strOk x = true := by
        cases n <;> exact fine
      exact .inl ⟨"str", false, both, by decide +kernel, by decide +kernel, by decide +kernel, shaped_of (by simp [PyData.canLay0, fx]) (by simp [PyData.depth]), by simp [PyData.eqv]⟩
    | dict kvs => cases h1
    | list ds =>
      cases n with
      | zero => exact fine.elim
      | succ m =>
        cases h1 with
        | lst g1 a1 =>
          cases h2 with
          | lst g2 a2 => exact .inr ⟨"list", true, _, _, _, _, ds, m, both, by decide +kernel, by decide +kernel, rfl, rfl, fun H' s' => .inl (s'.seq g1), fun H' s' => .inl (s'.seq g2), a1, a2, fine.1, rfl, fine.2⟩
    | tuple ds =>
      cases n with
      | zero => exact fine.elim
      | succ m =>
        cases h1 with
        | tup g1 a1 =>
          cases h2 with
          | tup g2 a2 => exact .inr ⟨"tuple", false, _, _, _, _, ds, m, both, by decide +kernel, by decide +kernel, rfl, rfl, fun H' s' => .inr (same_tup s' g1), fun H' s' => .inr (same_tup s' g2), a1, a2, fine.1, rfl, fine.2⟩
  rcases kinds with ⟨T, bl, ty, k1, k2, kb, sh, ev⟩ | ⟨T, l, a, b, xs, ys, ds, m, ty, k1, k2, rfl, rfl, sa, sb, da, db, hl, rfl, fd'⟩
  · refine ⟨_, rfl, (by show 2 ≤ sizeLine; decide), fun tp htp => ?_⟩
    have s1 := same_new htp (.tup [V.ty "list", V.ty "tuple"])
    refine ⟨v1, tp, _, _, _, false, rfl, upd_same, cls2, (ty _ s1).1, kit_no k1 (kit_no k2 rfl), _, rfl, ?_⟩
    refine ⟨_, rfl, (by show 2 ≤ sizeLine; decide), fun tp2 htp2 => ?_⟩
    have s2 := s1.trans (same_new htp2 (.tup [V.ty "list", V.ty "tuple"]))
    refine ⟨v2, tp2, _, _, _, false, rfl, upd_same, cls2, (ty _ s2).2, kit_no k1 (kit_no k2 rfl), _, rfl, ?_⟩
    refine ⟨_, rfl, v1, _, _, _, bl, rfl, .ty _, (ty _ s2).1, kit_ty kb, _, rfl, v2, _, _, _, bl, rfl, .ty _, (ty _ s2).2, kit_ty kb, rfl, true, ?_, ?_⟩
    · rw [decide_eq_true rfl]
    · refine ⟨_, rfl, _, rfl, d, d, dp_same s2 h1, dp_same s2 h2, sh, sh, ?_⟩
      rw [ev]
      exact q _ s2
  · have lx := dpAll_len da
    have ly := dpAll_len db
    refine ⟨_, rfl, (by show 2 ≤ sizeLine; decide), fun tp htp => ?_⟩
    have s1 := same_new htp (.tup [V.ty "list", V.ty "tuple"])
    have anyT : PySem.W.kitAny K (.type T) [Value.type "list", Value.type "tuple"] = some true := by
      cases l with
      | true => exact kit_yes k1
      | false => exact kit_no k1 (kit_yes k2)
    refine ⟨.ref a, tp, _, _, _, true, rfl, upd_same, cls2, (ty _ s1).1, anyT, _, rfl, ?_⟩
    refine ⟨_, rfl, .ref a, _, _, _, l, rfl, .ty _, (ty _ s1).1, kit_ty k1, _, rfl, .ref b, _, _, _, l, rfl, .ty _, (ty _ s1).2, kit_ty k1, rfl, false, ?_, ?_⟩
    · rw [decide_eq_true rfl]
      rfl
    refine ⟨_, rfl, .ref a, _, _, _, !l, rfl, .ty _, (ty _ s1).1, kit_ty k2, _, rfl, .ref b, _, _, _, !l, rfl, .ty _, (ty _ s1).2, kit_ty k2, rfl, false, ?_, ?_⟩
    · rw [decide_eq_true rfl]
      rfl
    refine ⟨_, rfl, a, xs, rfl, sa _ s1, _, rfl, b, ys, rfl, sb _ s1, rfl, false, ?_, ?_⟩
    · rw [lx, ly, decide_eq_true rfl]
      rfl
    refine ⟨_, rfl, a, xs, rfl, sa _ s1, _, rfl, by omega, by omega, fun D hD => lc_range (lo := 0) (n := (xs.length : Int).toNat) (fun i H' => Same H H' ∧ H' D = some (.lst [])) ⟨s1.trans (same_new hD _), upd_same⟩ ?_ ?_⟩
    · rintro i H' hi ⟨s', hD'⟩
      have hi' : i < xs.length := by omega
      have gx : xs[i]? = some xs[i] := List.getElem?_eq_getElem hi'
      have gy : ys[i]? = some (ys[i]'(by omega)) := List.getElem?_eq_getElem (by omega)
      obtain ⟨d1, e1, p1⟩ := dpAll_get da gx
      obtain ⟨d2, e2, p2⟩ := dpAll_get db gy
      rw [e1] at e2
      cases e2
      have ea : atI xs (0 + (i : Int)) = some xs[i] := at_of (j := i) (by omega) gx
      have eb : atI ys (0 + (i : Int)) = some (ys[i]'(by omega)) := at_of (j := i) (by omega) gy
      rcases sa _ s' with za | za <;> rcases sb _ s' with zb | zb
      · refine ⟨rfl, _, rfl, _, rfl, .inl ⟨a, xs, _, _, rfl, rfl, za, ea, _, rfl, _, rfl, .inl ⟨b, ys, _, _, rfl, rfl, zb, eb, ?_⟩⟩⟩
        exact ⟨_, _, d1, m, rfl, rfl, dp_same s' p1, dp_same s' p2, fd' d1 (List.mem_of_getElem? e1), fun H2 s2 => ⟨true, rfl, s'.trans s2, s2 _ _ hD'⟩⟩
      · refine ⟨rfl, _, rfl, _, rfl, .inl ⟨a, xs, _, _, rfl, rfl, za, ea, _, rfl, _, rfl, .inr (.inl ⟨b, ys, _, _, rfl, rfl, zb, eb, ?_⟩)⟩⟩
        exact ⟨_, _, d1, m, rfl, rfl, dp_same s' p1, dp_same s' p2, fd' d1 (List.mem_of_getElem? e1), fun H2 s2 => ⟨true, rfl, s'.trans s2, s2 _ _ hD'⟩⟩
      · refine ⟨rfl, _, rfl, _, rfl, .inr (.inl ⟨a, xs, _, _, rfl, rfl, za, ea, _, rfl, _, rfl, .inl ⟨b, ys, _, _, rfl, rfl, zb, eb, ?_⟩⟩)⟩
        exact ⟨_, _, d1, m, rfl, rfl, dp_same s' p1, dp_same s' p2, fd' d1 (List.mem_of_getElem? e1), fun H2 s2 => ⟨true, rfl, s'.trans s2, s2 _ _ hD'⟩⟩
      · refine ⟨rfl, _, rfl, _, rfl, .inr (.inl ⟨a, xs, _, _, rfl, rfl, za, ea, _, rfl, _, rfl, .inr (.inl ⟨b, ys, _, _, rfl, rfl, zb, eb, ?_⟩)⟩)⟩
        exact ⟨_, _, d1, m, rfl, rfl, dp_same s' p1, dp_same s' p2, fd' d1 (List.mem_of_getElem? e1), fun H2 s2 => ⟨true, rfl, s'.trans s2, s2 _ _ hD'⟩⟩
    · rintro H' ⟨s', hD'⟩
      refine ⟨Nat.zero_le _, fun e he => ?_⟩
      have s5 := same_new he (.lst [])
      refine ⟨.list [], .list [], .lst (sql (s5 _ _ hD')) .nil, .lst (sql upd_same) .nil, by decide +kernel, by decide +kernel, ?_⟩
      have ev : PyData.eqv (.list []) (.list []) = true := by simp [PyData.eqv, PyData.eqvAll]
      rw [ev]
      exact q _ (s'.trans s5)
theorem like_all {f : Addr} {fd : FuncData} (F : Fun K "_law_like" "_law_like" sLike f fd) (B : Bi mg) (m : mg "_law_like" = some (.ref f)) (b : Binds K fd ["one", "two"] []) :
    ∀ n : Nat, FnOk P w K mg base CX0 n f fd ["one", "two"] (spLike K n)
  | 0 => by
    have no : ∀ vs H Q E, ¬ spLike K 0 vs H Q E := fun vs H Q E h => by
      obtain ⟨_, _, _, m, h, _⟩ := h
      cases h
    exact ⟨fun vs H Q E h => absurd h (no vs H Q E), fun A outer s H args us vs Q E _ _ _ _ h => absurd h (no vs H Q E)⟩
  | n + 1 => like_step F B ⟨f, fd, like_all F B m b n, m, F.kp, b⟩
abbrev nWants : List Str := ["tape", "books", "readers", "found", "left", "at", "book", "many"]
theorem scWants : FnScope nWants ["tape", "books", "readers"] (defScope sWants) := ⟨rfl, rfl, rfl, by decide +kernel, rfl, by decide +kernel, by decide +kernel⟩
theorem ok_wants {f : Addr} {fd : FuncData} (F : Fun K "_law_wants" "_law_wants" sWants f fd) (B : Bi mg) (cD : Has P w K mg base 1 "_law_draw" ["tape", "many"] spDraw) (cB : Has P w K mg base 1 "_law_books" [] spBooks) :
    FnOk P w K mg base CX0 2 f fd ["tape", "books", "readers"] spWants := by
  refine F.ok scWants (fun vs H Q E h => ?_) (fun cdv A outer s H vs Q E hr h => ?_)
  · obtain ⟨T, S, ns, m, n, rfl, _⟩ := h
    rfl
  obtain ⟨T, S, ns, m, n, rfl, tp, m0, m7, n0, n1, q⟩ := h
  refine ⟨_, pss_cons (ps_par (i := 3) (j := 4) (by rfl) scWants.nd rfl rfl (by decide) rfl rfl (pa_cons (pe_lst pa_nil) (pa_cons (pv 2) pa_nil)) (by rfl))
    (pss_cons (ps_for PassesOwn.never rfl (pi_enum (by rfl) B.enumerate (pa_cons (pe_slice sl_list (pe_go0 cB hr (by decide) rfl) po_none (po_some (pv 1))) pa_nil)) (pg_tup rfl (pgs_cons (pg_name (i := 5) scWants.nd rfl (.inl rfl)) (pgs_cons (pg_name (i := 6) scWants.nd rfl (.inl rfl)) pgs_nil)))
      (pss_cons (ps_set (i := 7) scWants.nd rfl (.inl rfl) (pe_op op_add pe_int (pe_go cD hr (by decide) rfl (pa_cons (pv 0) (pa_cons pe_int pa_nil)))))
      (pss_one (ps_if (PW.pt (pw_and (pt_cmpR op_gt (pv 4) pe_int (nomark _)) (pw_and1 (PW.pt (pw_or (pt_cmpR op_gt (pe_go cD hr (by decide) rfl (pa_cons (pv 0) (pa_cons pe_int pa_nil))) pe_int (nomark _)) (pw_or1 (pt_cmpR op_eq (pv 5) pe_int (nomark _))))))))
        (pss_cons (ps_expr (pe_bm PySem.F.plainAttrs_list PySem.F.slot_list_append PySem.F.type_list_append mt_append (pv 3) (pa_cons (pe_tup (pa_cons (pv 6) (pa_cons (pe_callB (call_min2 rfl) (by rfl) B.min (by decide +kernel) (pa_cons (pv 7) (pa_cons (pv 4) pa_nil))) pa_nil))) pa_nil)))
        (pss_one (ps_set (i := 4) scWants.nd rfl (.inl rfl) (pe_op op_sub (pv 4) (pe_ix ix_tup (pe_ix ix_list (pv 3) (pe_un un_neg pe_int) (fun _ _ => rfl)) pe_int (fun _ _ => rfl)))))) pss_nil))))
    (pss_one (ps_ret (pe_callTy call_tupleZ (by rfl) B.tuple (by decide +kernel) (pa_cons (pv 3) pa_nil))))), ?_⟩
  refine ⟨Nat.zero_le _, fun Fd hF => ⟨_, rfl, ⟨_, _, rfl, ?_⟩⟩⟩
  have s1 := same_new hF (.lst [])
  have nFT : Fd ≠ T := by
    obtain ⟨o, ho⟩ := tp.taken
    exact new_ne ho hF
  refine ⟨rfl, fun b hb => ⟨_, rfl, _, rfl, b, _, rfl, sql upd_same, fun y hy => ?_⟩⟩
  have s2 := same_new hb (.lst (books.map V.str))
  have ecut : cutV (books.map V.str) none (some (m : Int)) = (books.take m).map V.str := by rw [cut_to (by show m ≤ 7; exact m7), List.map_take]
  rw [ecut]
  have s3 := same_new hy (.lst ((books.take m).map V.str))
  have sm0 := s1.trans (s2.trans s3)
  have hF0 := s3 _ _ (s2 _ _ (upd_same (H := H) (a := Fd) (o := .lst [])))
  have nyF : y ≠ Fd := (ne_of_none (s2 _ _ (upd_same (H := H) (a := Fd) (o := .lst []))) hy).symm
  have ny0 : H y = none := (s1.trans s2).free hy
  have hy0 : upd (upd (upd H Fd (.lst [])) b (.lst (books.map V.str))) y (.lst ((books.take m).map V.str)) y = some (.lst ((books.take m).map V.str)) := upd_same
  generalize upd (upd (upd H Fd (.lst [])) b (.lst (books.map V.str))) y (.lst ((books.take m).map V.str)) = H0 at sm0 hF0 hy0 ⊢
  have nyT : y ≠ T := by
    obtain ⟨o, ho⟩ := tp.taken
    exact new_ne ho ny0
  have lbm : (books.take m).length = m := by
    rw [List.length_take]
    show min m 7 = m
    omega
  refine ⟨y, _, rfl, sql hy0, for_it (walk_enum (K := K) (a := y) (xs := (books.take m).map V.str))
    (fun i σ H' => ∃ (y5 y6 y7 : Option V) (ts : List Addr) (ws : List (Str × Nat)) (l : Nat), σ = [some (.ref T), some (.int m), some (.int n), some (.ref Fd), some (.int l), y5, y6, y7] ∧ SameT T H H' ∧ Tape H' T S ns ∧ H' Fd = some (.lst (ts.map V.ref)) ∧ H' y = some (.lst ((books.take m).map V.str)) ∧
      WL H' ts ws ∧ (ws.map (·.1)).Sublist ((books.take m).take i) ∧ (∀ p ∈ ws, 0 < p.2) ∧ (ws.map (·.2)).sum + l = n ∧ (0 < i → ws ≠ []))
    ⟨none, none, none, [], [], n, rfl, SameT.of sm0, tp.same sm0, hF0, hy0, ⟨rfl, fun i t p h => by simp at h⟩, List.nil_sublist _, fun p h => (nomatch h), by simp, fun z => absurd z (Nat.lt_irrefl _)⟩ (fun i σ H' _ ⟨_, _, _, _, _, _, _, _, _, _, h, _⟩ => sql h) ?_ ?_⟩
  · rintro i x σ H3 H4 hi ⟨y5, y6, y7, ts, ws, l, rfl, sm, tp3, hF3, hy3, wl, sub, pos, sum, some1⟩ ⟨t, x1, x2, rfl, nt, rfl, e1, e2⟩
    rw [List.length_map, lbm] at hi
    cases e1
    obtain ⟨a, ha, rfl⟩ := strs_get e2
    have s4 := same_new nt (.tup [natV i, .str a])
    have sm4 := sm.trans (SameT.of s4)
    have tp4 := tp3.same s4
    have hF4 := s4 _ _ hF3
    have hy4 := s4 _ _ hy3
    have wl4 := wl.move fun t xs e => s4 _ _ e
    have ht4 : upd H3 t (.tup [natV i, .str a]) t = some (.tup [natV i, .str a]) := upd_same
    generalize upd H3 t (.tup [natV i, .str a]) = H4 at sm4 tp4 hF4 hy4 wl4 ht4 ⊢
    refine ⟨t, _, rfl, sqt ht4, rfl, _, _, rfl, _, _, rfl, rfl, ?_⟩
    refine ⟨_, rfl, T, S, ns, 4, rfl, tp4, by decide, by decide, fun r i1 c1 r0 r1 => ⟨_, _, rfl, rfl, ?_⟩⟩
    have sm5 := sm4.trans (sameT_put (T := T) (H := H4) (.lst [.ref S, .int i1, .int c1]))
    have tp5 := tp4.put i1 c1
    have hF5 : upd H4 T (.lst [.ref S, .int i1, .int c1]) Fd = some (.lst (ts.map V.ref)) := by rw [upd_ne nFT]; exact hF4
    have hy5 : upd H4 T (.lst [.ref S, .int i1, .int c1]) y = some (.lst ((books.take m).map V.str)) := by rw [upd_ne nyT]; exact hy4
    have wl5 : WL (upd H4 T (.lst [.ref S, .int i1, .int c1])) ts ws := wl4.move fun t' xs e => by
      rw [upd_ne]
      · exact e
      · obtain ⟨i', c', hT⟩ := tp4.at_
        exact ne_of e hT fun z => nomatch z
    generalize upd H4 T (.lst [.ref S, .int i1, .int c1]) = H5 at sm5 tp5 hF5 hy5 wl5 ⊢
    have sub' : (ws.map (·.1)).Sublist ((books.take m).take (i + 1)) := sub.trans (List.take_sublist_take_left (Nat.le_succ i))
    refine ⟨_, rfl, _, _, rfl, rfl, _, rfl, ite2 (fun g => ?_) (fun g => ?none)⟩
    case none =>
      refine iteF ⟨_, _, _, ts, ws, l, rfl, sm5, tp5, hF5, hy5, wl5, sub', pos, sum, fun _ e => ?_⟩
      have l0 : ¬ (0 : Int) < (l : Int) := fun z => g (decide_eq_true z)
      rw [e] at sum
      have z : ([].map fun x : Str × Nat => x.2).sum = 0 := rfl
      rw [z] at sum
      omega
    have l0 : (0 : Int) < (l : Int) := of_decide_eq_true g
    have hai : ((books.take m).take (i + 1)) = (books.take m).take i ++ [a] := take_step ha
    refine ⟨_, rfl, T, S, ns, 4, rfl, tp5, by decide, by decide, fun r2 i2 c2 r20 r21 => ⟨_, _, rfl, rfl, _, rfl, ?_⟩⟩
    have sm6 := sm5.trans (sameT_put (T := T) (H := H5) (.lst [.ref S, .int i2, .int c2]))
    have tp6 := tp5.put i2 c2
    have hF6 : upd H5 T (.lst [.ref S, .int i2, .int c2]) Fd = some (.lst (ts.map V.ref)) := by rw [upd_ne nFT]; exact hF5
    have hy6 : upd H5 T (.lst [.ref S, .int i2, .int c2]) y = some (.lst ((books.take m).map V.str)) := by rw [upd_ne nyT]; exact hy5
    have wl6 : WL (upd H5 T (.lst [.ref S, .int i2, .int c2])) ts ws := wl5.move fun t' xs e => by
      rw [upd_ne]
      · exact e
      · obtain ⟨i', c', hT⟩ := tp5.at_
        exact ne_of e hT fun z => nomatch z
    generalize upd H5 T (.lst [.ref S, .int i2, .int c2]) = H6 at sm6 tp6 hF6 hy6 wl6 ⊢
    obtain ⟨v, ev, v0, vl⟩ : ∃ v : Nat, (if (l : Int) < 1 + r then (l : Int) else 1 + r) = (v : Int) ∧ 0 < v ∧ v ≤ l := by
      by_cases c : (l : Int) < 1 + r
      · exact ⟨l, if_pos c, by omega, Nat.le_refl _⟩
      · exact ⟨(1 + r).toNat, by rw [if_neg c]; omega, by omega, by omega⟩
    have lts : ts.length ≤ 7 := by
      rw [wl.1, ← List.length_map (f := (·.1))]
      refine Nat.le_trans sub.length_le ?_
      rw [List.length_take, lbm]
      omega
    refine ite2 (fun g2 => ?yes) (fun g2 => ⟨_, rfl, rfl, _, rfl, ite2 (fun g3 => ?yes2) (fun g3 => ?no)⟩)
    case no =>
      refine ⟨_, _, _, ts, ws, l, rfl, sm6, tp6, hF6, hy6, wl6, sub', pos, sum, fun _ => some1 ?_⟩
      have ne : ¬ V.int ((i : Nat) : Int) = V.int 0 := fun z => g3 (decide_eq_true z)
      rcases Nat.eq_zero_or_pos i with z | z
      · exact absurd (by rw [z]; rfl) ne
      · exact z
    case yes | yes2 =>
      refine ⟨_, rfl, .inl ⟨rfl, _, sql hF6⟩, _, rfl, _, rfl, _, rfl, _, _, rfl, (by show 2 ≤ sizeLine; decide), fun pr hpr => ?_⟩
      rw [ev]
      have s7 := same_new hpr (.tup [.str a, natV v])
      have sm7 := sm6.trans (SameT.of s7)
      have tp7 := tp6.same s7
      have hF7 := s7 _ _ hF6
      have hy7 := s7 _ _ hy6
      have wl7 := (wl6.move fun t xs e => s7 _ _ e).snoc (p := (a, v)) (t := pr) (upd_same (H := H6))
      have npF : pr ≠ Fd := (ne_of_none hF6 hpr).symm
      have hp7 : upd H6 pr (.tup [.str a, natV v]) pr = some (.tup [.str a, natV v]) := upd_same
      generalize upd H6 pr (.tup [.str a, natV v]) = H7 at sm7 tp7 hF7 hy7 wl7 hp7 ⊢
      refine ⟨Fd, _, _, rfl, rfl, hF7, by rw [List.length_map]; exact small1000 (by omega), ?_⟩
      have e8 : ts.map V.ref ++ [V.ref pr] = (ts ++ [pr]).map V.ref := by rw [List.map_append]; rfl
      rw [e8]
      have sm8 : SameT T H (upd H7 Fd (.lst ((ts ++ [pr]).map V.ref))) := sameT_new sm7 hF
      have tp8 : Tape (upd H7 Fd (.lst ((ts ++ [pr]).map V.ref))) T S ns := by
        obtain ⟨i', c', hT⟩ := tp7.at_
        refine ⟨⟨i', c', by rw [upd_ne nFT.symm]; exact hT⟩, ?_⟩
        rw [upd_ne (ne_of_none tp.scr hF)]
        exact tp7.scr
      have hy8 : upd H7 Fd (.lst ((ts ++ [pr]).map V.ref)) y = some (.lst ((books.take m).map V.str)) := by rw [upd_ne nyF]; exact hy7
      have wl8 : WL (upd H7 Fd (.lst ((ts ++ [pr]).map V.ref))) (ts ++ [pr]) (ws ++ [(a, v)]) := wl7.move fun t' xs e => by
        rw [upd_ne (ne_of e hF7 fun z => nomatch z)]
        exact e
      have hp8 : upd H7 Fd (.lst ((ts ++ [pr]).map V.ref)) pr = some (.tup [.str a, natV v]) := by rw [upd_ne npF]; exact hp7
      have hF8 : upd H7 Fd (.lst ((ts ++ [pr]).map V.ref)) Fd = some (.lst ((ts ++ [pr]).map V.ref)) := upd_same
      generalize upd H7 Fd (.lst ((ts ++ [pr]).map V.ref)) = H8 at sm8 tp8 hy8 wl8 hp8 hF8 ⊢
      refine ⟨_, rfl, _, rfl, _, rfl, Fd, _, _, .ref pr, rfl, rfl, sql hF8, by rw [List.map_append]; exact atI_last _ _, pr, _, 1, natV v, rfl, rfl, sqt hp8, rfl, _, _, rfl, rfl, ?_⟩
      refine ⟨some (natV i), some (.str a), some (.int (1 + r)), ts ++ [pr], ws ++ [(a, v)], l - v, ?_, sm8, tp8, hF8, hy8, wl8, ?_, ?_, ?_, fun _ z => ?_⟩
      · rw [show (((l - v : Nat)) : Int) = (l : Int) - (v : Int) by omega]
        rfl
      · rw [hai, List.map_append]
        exact sub.append (List.Sublist.refl _)
      · intro p hp
        rcases List.mem_append.mp hp with hp | hp
        · exact pos p hp
        · rw [List.mem_singleton.mp hp]
          exact v0
      · rw [List.map_append, List.sum_append]
        show _ + (v + 0) + (l - v) = n
        omega
      · cases ws <;> cases z
  · rintro σ H' ⟨y5, y6, y7, ts, ws, l, rfl, sm, tp3, hF3, hy3, wl, sub, pos, sum, some1⟩
    rw [List.length_map, lbm] at sub some1
    refine ⟨_, rfl, Fd, _, rfl, sql hF3, fun W u hW hu => ?_⟩
    have s4 := same_new hW u
    have nW : H W = none := by
      refine sm.free ?_ hW
      obtain ⟨o, ho⟩ := tp3.taken
      exact new_ne ho hW
    refine q W _ ws (sm.trans (SameT.of s4)) (tp3.same s4) nW ⟨ts, TpO.new hu, wl.move fun t xs e => s4 _ _ e⟩ ⟨?_, pos, some1 m0, by omega⟩
    rw [List.take_of_length_le (by rw [lbm]; exact Nat.le_refl _)] at sub
    exact sub
def spName (K : PySem.W.Frag) (Pn : Addr) : Sp := fun vs H Q _ => ∃ (v : V) (d : PyData), vs = [v] ∧ Dp K H v d ∧ (∀ z, d = .str z → z.length ≤ 1000) ∧ GxR.TabG H Pn ∧ ∀ H', GxR.Tabbed Pn H H' → Q (.bl (nameD d)) H'
theorem scIsName : FnScope ["thing"] ["thing"] (defScope sIsName) := ⟨rfl, rfl, rfl, by decide +kernel, rfl, by decide +kernel, by decide +kernel⟩
theorem ok_isName {f c Pn : Addr} {fd : FuncData} (F : Fun K "is_name" "is_name" sIsName f fd) (hc : fd.code = .ref c) (TB : GxR.TabB base mg c Pn) (B : Bi mg) {tk : Tok} (mgL : mg "LONGEST_NAME" = some (.int 8 tk)) : FnOk P w K mg base CX0 1 f fd ["thing"] (spName K Pn) := by
  obtain ⟨oc, od, kV, doc, pm, an, cdv, ct, osl, rfl, lk, hcd⟩ := F.ex
  refine fn_of lk hcd scIsName (fun vs H Q E h => ?_) fun A outer s H vs Q E hr h => ?_
  · obtain ⟨v, d, rfl, _⟩ := h
    rfl
  obtain ⟨v, d, rfl, dp, len, tg, q⟩ := h
  have hc' : cdv = .ref c := hc
  subst hc'
  refine ⟨_, PSs.nox (pss_cons (ps_if (pt_not (pt_val (pe_callB call_isi (by rfl) B.isinstance (by decide +kernel) (pa_cons (pv 0) (pa_cons (pe_bltn (v := .ty "str") (by rfl) B.str (by decide +kernel) rfl) pa_nil))))) (pss_one (ps_ret pe_bl)) pss_nil)
    (pss_cons (ps_if (pt_not (pt_chain op_le op_le pe_int (pe_callB call_len_str (by rfl) B.len PySem.boot_len (pa_cons (pv 0) pa_nil)) (pe_glob (v := .int 8) (by rfl) mgL ⟨_, rfl⟩))) (pss_one (ps_ret pe_bl)) pss_nil)
    (pss_one (ps_ret (GxR.pe_allS hr (by rfl) B.all (by decide +kernel) TB rfl ⟨rfl, rfl, by decide +kernel, rfl, rfl, no_free (by decide +kernel)⟩ (pv 0) (elt_az rfl rfl) (fun _ => rfl)))))), ?_⟩
  rcases kind_str dp with ⟨z, rfl⟩ | ⟨h1, h2⟩
  · cases dp
    have zl := len z rfl
    refine ⟨_, rfl, _, _, _, _, true, rfl, .ty _, (show TyX K H (.str z) (.type "str") from .base (.str z)), kit_ty (by decide +kernel), true, rfl, ?_⟩
    have fin : (nameD (.str z) = false) → Q (.bl false) H := fun e => by
      have y := q H (tabbed_refl tg)
      rw [e] at y
      exact y
    refine ⟨_, rfl, z, rfl, by rw [sizeLine_eq]; omega, _, _, rfl, rfl, _, rfl, ite2 (fun c1 => ?_) (fun c1 => ?_)⟩
    · have d1 : 1 ≤ z.length := by
        have y := of_decide_eq_true c1
        omega
      refine ⟨_, _, rfl, rfl, _, rfl, ?_⟩
      by_cases d2 : z.length ≤ 8
      · have e2 : decide ((z.length : Int) ≤ 8) = true := decide_eq_true (by omega)
        rw [e2]
        refine ⟨_, rfl, z, rfl, tg, fun H2 tb => ?_⟩
        have y := q H2 tb
        rw [nameD_str, decide_eq_true d1, decide_eq_true d2, Bool.true_and, Bool.true_and] at y
        exact y
      · have e2 : decide ((z.length : Int) ≤ 8) = false := decide_eq_false (by omega)
        rw [e2]
        refine fin ?_
        rw [nameD_str, decide_eq_false d2, Bool.and_false, Bool.false_and]
    · have d1 : ¬ 1 ≤ z.length := fun y => c1 (decide_eq_true (by omega))
      refine ⟨_, rfl, fin ?_⟩
      rw [nameD_str, decide_eq_false d1, Bool.false_and, Bool.false_and]
  · refine ⟨_, rfl, _, _, _, _, false, rfl, .ty _, ty_dp dp, kit_ty h2, false, rfl, ?_⟩
    have z := q H (tabbed_refl tg)
    rw [name_no h1] at z
    exact z
def spIsPileN (K : PySem.W.Frag) (Ps : List Addr) : Sp := fun vs H Q _ => ∃ (v : V) (d : PyData), vs = [v] ∧ Dp K H v d ∧ (∀ ds, d = .tuple ds → ∀ z, .str z ∈ ds → z.length ≤ 1000) ∧ Tabs H Ps ∧
  ∀ H', SameN H H' → Tabs H' Ps → Q (.bl (pileD d)) H'
theorem scIsPile : FnScope ["thing"] ["thing"] (defScope sIsPile) := ⟨rfl, rfl, rfl, by decide +kernel, rfl, by decide +kernel, by decide +kernel⟩
theorem ok_isPileN {f c Pn Pp : Addr} {Ps : List Addr} {fd : FuncData} (F : Fun K "is_pile" "is_pile" sIsPile f fd) (hc : fd.code = .ref c) (TB : GxR.TabB base mg c Pp) (iN : Pn ∈ Ps) (iP : Pp ∈ Ps) (B : Bi mg) {tk : Tok} (mgL : mg "MOST_BOOKS" = some (.int 7 tk)) (cN : Has P w K mg base 1 "is_name" ["thing"] (spName K Pn)) :
    FnOk P w K mg base CX0 3 f fd ["thing"] (spIsPileN K Ps) := by
  obtain ⟨oc, od, kV, doc, pm, an, cdv, ct, osl, rfl, lk, hcd⟩ := F.ex
  refine fn_of lk hcd scIsPile (fun vs H Q E h => ?_) fun A outer s H vs Q E hr h => ?_
  · obtain ⟨v, d, rfl, _⟩ := h
    rfl
  obtain ⟨v, d, rfl, dp, len, tg, q⟩ := h
  have tn := tg Pn iN
  have tp := tg Pp iP
  have hc' : cdv = .ref c := hc
  subst hc'
  refine ⟨_, PSs.nox (pss_cons (ps_if (pt_not (pt_val (pe_callB call_isi (by rfl) B.isinstance (by decide +kernel) (pa_cons (pv 0) (pa_cons (pe_bltn (v := .ty "tuple") (by rfl) B.tuple (by decide +kernel) rfl) pa_nil))))) (pss_one (ps_ret pe_bl)) pss_nil)
    (pss_cons (ps_if (pt_not (pt_chain op_le op_le pe_int (pe_callB call_len_seq (by rfl) B.len PySem.boot_len (pa_cons (pv 0) pa_nil)) (pe_glob (v := .int 7) (by rfl) mgL ⟨_, rfl⟩))) (pss_one (ps_ret pe_bl)) pss_nil)
    (pss_cons (ps_if (pt_not (pt_val (pe_allN (k := 1) (tel := tCall (spName K Pn) [] E0 (tCons (tVar 1) tNil)) hr (by rfl) B.all TB rfl ⟨rfl, rfl, by decide +kernel, rfl, rfl, by decide⟩ (pv 0) (fun A C code s4 H4 I rA => pe_go cN rA (Nat.le_refl _) rfl (pa_cons (pv 1) pa_nil))))) (pss_one (ps_ret pe_bl)) pss_nil)
    (pss_one (ps_ret (pe_cmpR op_eq (pe_lenSetT rfl (by rfl) B.len (by rfl) B.set (pv 0)) (pe_callB call_len_seq (by rfl) B.len PySem.boot_len (pa_cons (pv 0) pa_nil)) (nomark _))))))), ?_⟩
  have fin : pileD d = false → Q (.bl false) H := fun e => by
    have y := q H (SameN.refl H) tg
    rw [e] at y
    exact y
  rcases kind_tup dp with ⟨ds, rfl⟩ | ⟨h1, h2⟩
  · cases dp with
    | @tup a vs _ sq da =>
    have lv := dpAll_len da
    refine ⟨_, rfl, _, _, _, _, true, rfl, .ty _, (show TyX K H (.ref a) (.type "tuple") from ty_dp (.tup sq da)), kit_ty (by decide +kernel), true, rfl, ?_⟩
    refine ⟨_, rfl, a, _, rfl, .inr sq, _, _, rfl, rfl, _, rfl, ite2 (fun c1 => ?_) (fun c1 => ?_)⟩
    · have d1 : 1 ≤ ds.length := by
        have y := of_decide_eq_true c1
        omega
      refine ⟨_, _, rfl, rfl, _, rfl, ?_⟩
      by_cases d2 : ds.length ≤ 7
      · have e2 : decide ((vs.length : Int) ≤ 7) = true := decide_eq_true (by omega)
        rw [e2]
        refine ⟨_, rfl, a, vs, atD nameD ds, fun _ H' => SameN H H' ∧ (∀ b, H b = none → H' b = none) ∧ Tabs H' Ps, rfl, sq, tp, fun H2 tb => ?_, fun i H' w => ⟨w.1.tup sq, w.2.1⟩, ?_, ?_⟩
        · refine ⟨SameN.tab tp tb, fun b hb => ?_, tg.tab tb⟩
          by_cases e : b = Pp
          · obtain ⟨ps, h, _⟩ := tp
            rw [e, h] at hb
            cases hb
          · rw [tb.2 b e]
            exact hb
        · rintro J i H' v hv ⟨sn, nn, tg'⟩
          have tn' := tg' Pn iN
          obtain ⟨d, ed, dd⟩ := dpAll_get da hv
          refine ⟨_, rfl, v, d, rfl, dp_sameN sn dd, fun z e => len ds rfl z (by rw [← e]; exact List.mem_of_getElem? ed), tn', fun H3 tb => ⟨?_, sn.trans (SameN.tab tn' tb), fun b hb => ?_, tg'.tab tb⟩⟩
          · rw [atD_some ed]
          · have y := nn b hb
            by_cases e : b = Pn
            · obtain ⟨ps, h, _⟩ := tn'
              rw [e, h] at y
              cases y
            · rw [tb.2 b e]
              exact y
        · rintro j H' ⟨sn, nn, tg'⟩
          have ea := all_at nameD ds
          rw [lv, ea]
          refine ⟨_, rfl, ?_⟩
          have y := q H' sn tg'
          rw [pileD_tup, decide_eq_true d1, decide_eq_true d2, Bool.true_and, Bool.true_and] at y
          cases en : ds.all nameD with
          | false =>
            rw [en, Bool.false_and] at y
            exact y
          | true =>
            rw [en, Bool.true_and] at y
            have et := txts_all fun d hd => List.all_eq_true.mp en d hd
            have lt : (txts ds).length = ds.length := by
              have z := congrArg List.length et
              rw [List.length_map] at z
              exact z.symm
            have ev : vs = (txts ds).map V.str := dpAll_txts (by rw [← et]; exact da)
            refine ⟨_, rfl, a, txts ds, rfl, by rw [← ev]; exact sn.tup sq, by omega, _, rfl, a, _, rfl, .inr (sn.tup sq), rfl, ?_⟩
            have e3 : decide (V.int ((dist (txts ds) : Nat) : Int) = V.int ((vs.length : Nat) : Int)) = decide (dist (txts ds) = ds.length) := by
              rw [decide_eq_decide, lv]
              exact ⟨fun z => by injection z with z; omega, fun z => by rw [z]⟩
            show Q (.bl (decide (V.int ((dist (txts ds) : Nat) : Int) = V.int ((vs.length : Nat) : Int)))) H'
            rw [e3]
            exact y
      · have e2 : decide ((vs.length : Int) ≤ 7) = false := decide_eq_false (by omega)
        rw [e2]
        refine fin ?_
        rw [pileD_tup, decide_eq_false d2, Bool.and_false, Bool.false_and, Bool.false_and]
    · have d1 : ¬ 1 ≤ ds.length := fun y => c1 (decide_eq_true (by omega))
      refine ⟨_, rfl, fin ?_⟩
      rw [pileD_tup, decide_eq_false d1, Bool.false_and, Bool.false_and, Bool.false_and]
  · refine ⟨_, rfl, _, _, _, _, false, rfl, .ty _, ty_dp dp, kit_ty h2, false, rfl, ?_⟩
    exact fin (pile_no h1)
def spWhole (K : PySem.W.Frag) : Sp := fun vs H Q _ => ∃ (v : V) (d : PyData), vs = [v] ∧ Dp K H v d ∧ Q (.bl (wholeD d)) H
theorem scWhole : FnScope ["thing"] ["thing"] (defScope sWhole) := ⟨rfl, rfl, rfl, by decide +kernel, rfl, by decide +kernel, by decide +kernel⟩
theorem ok_whole {f : Addr} {fd : FuncData} (F : Fun K "is_whole_number" "is_whole_number" sWhole f fd) (B : Bi mg) : FnOk P w K mg base CX0 1 f fd ["thing"] (spWhole K) := by
  refine F.ok scWhole (fun vs H Q E h => ?_) (fun cdv A outer s H vs Q E hr h => ?_)
  · obtain ⟨v, d, rfl, _⟩ := h
    rfl
  obtain ⟨v, d, rfl, dp, q⟩ := h
  refine ⟨_, pss_one (ps_ret (pe_and (pe_callB call_isi (by rfl) B.isinstance (by decide +kernel) (pa_cons (pv 0) (pa_cons (pe_bltn (v := .ty "int") (by rfl) B.int (by decide +kernel) rfl) pa_nil)))
    (pe_one (pe_not (pe_callB call_isi (by rfl) B.isinstance (by decide +kernel) (pa_cons (pv 0) (pa_cons (pe_bltn (v := .ty "bool") (by rfl) B.bool (by decide +kernel) rfl) pa_nil))))))), ?_⟩
  have ty := ty_dp dp
  cases dp with
  | non => exact ⟨_, rfl, _, _, _, _, false, rfl, .ty _, ty, kit_ty (show kitB "NoneType" "int" = some false by decide +kernel), false, rfl, q⟩
  | bl b => exact ⟨_, rfl, _, _, _, _, true, rfl, .ty _, ty, kit_ty (show kitB "bool" "int" = some true by decide +kernel), true, rfl, _, rfl, _, _, _, _, true, rfl, .ty _, ty, kit_ty (show kitB "bool" "bool" = some true by decide +kernel), true, rfl, q⟩
  | int i => exact ⟨_, rfl, _, _, _, _, true, rfl, .ty _, ty, kit_ty (show kitB "int" "int" = some true by decide +kernel), true, rfl, _, rfl, _, _, _, _, false, rfl, .ty _, ty, kit_ty (show kitB "int" "bool" = some false by decide +kernel), false, rfl, q⟩
  | str z => exact ⟨_, rfl, _, _, _, _, false, rfl, .ty _, ty, kit_ty (show kitB "str" "int" = some false by decide +kernel), false, rfl, q⟩
  | lst h a => exact ⟨_, rfl, _, _, _, _, false, rfl, .ty _, ty, kit_ty (show kitB "list" "int" = some false by decide +kernel), false, rfl, q⟩
  | tup h a => exact ⟨_, rfl, _, _, _, _, false, rfl, .ty _, ty, kit_ty (show kitB "tuple" "int" = some false by decide +kernel), false, rfl, q⟩
def spWant (K : PySem.W.Frag) (Pn : Addr) : Sp := fun vs H Q _ => ∃ (v : V) (d : PyData), vs = [v] ∧ Dp K H v d ∧ (∀ ds, d = .tuple ds → ∀ z, .str z ∈ ds → z.length ≤ 1000) ∧ GxR.TabG H Pn ∧ ∀ H', GxR.Tabbed Pn H H' → Q (.bl (wantD d)) H'
theorem scIsWant : FnScope ["thing", "book", "many"] ["thing"] (defScope sIsWant) := ⟨rfl, rfl, rfl, by decide +kernel, rfl, by decide +kernel, by decide +kernel⟩
theorem ok_isWant {f Pn : Addr} {fd : FuncData} (F : Fun K "is_want" "is_want" sIsWant f fd) (B : Bi mg) {tk : Tok} (mgL : mg "MOST_READERS_OF_ONE" = some (.int 4 tk)) (cN : Has P w K mg base 1 "is_name" ["thing"] (spName K Pn)) (cW : Has P w K mg base 1 "is_whole_number" ["thing"] (spWhole K)) :
    FnOk P w K mg base CX0 2 f fd ["thing"] (spWant K Pn) := by
  refine F.ok scIsWant (fun vs H Q E h => ?_) (fun cdv A outer s H vs Q E hr h => ?_)
  · obtain ⟨v, d, rfl, _⟩ := h
    rfl
  obtain ⟨v, d, rfl, dp, len, tg, q⟩ := h
  refine ⟨_, pss_cons (ps_if (PW.pt (pw_or (pt_not (pt_val (pe_callB call_isi (by rfl) B.isinstance (by decide +kernel) (pa_cons (pv 0) (pa_cons (pe_bltn (v := .ty "tuple") (by rfl) B.tuple (by decide +kernel) rfl) pa_nil)))))
      (pw_or1 (pt_cmpR op_ne (pe_callB call_len_seq (by rfl) B.len PySem.boot_len (pa_cons (pv 0) pa_nil)) pe_int (nomark _))))) (pss_one (ps_ret pe_bl)) pss_nil)
    (pss_cons (ps_asg (pv 0) (pg_tup rfl (pgs_cons (pg_name (i := 1) scIsWant.nd rfl (.inl rfl)) (pgs_cons (pg_name (i := 2) scIsWant.nd rfl (.inl rfl)) pgs_nil))))
    (pss_one (ps_ret (pe_and (pe_go cN hr (by decide) rfl (pa_cons (pv 1) pa_nil)) (pe_and (pe_go cW hr (by decide) rfl (pa_cons (pv 2) pa_nil)) (pe_one (pe_chain op_le op_le pe_int (pv 2) (pe_glob (v := .int 4) (by rfl) mgL ⟨_, rfl⟩)))))))), ?_⟩
  have fin : wantD d = false → Q (.bl false) H := fun e => by
    have y := q H (tabbed_refl tg)
    rw [e] at y
    exact y
  rcases kind_tup dp with ⟨ds, rfl⟩ | ⟨h1, h2⟩
  · cases dp with
    | @tup a vs _ sq da =>
    have lv := dpAll_len da
    refine ⟨_, rfl, _, _, _, _, true, rfl, .ty _, (show TyX K H (.ref a) (.type "tuple") from ty_dp (.tup sq da)), kit_ty (by decide +kernel), true, rfl, ?_⟩
    refine ⟨_, rfl, a, _, rfl, .inr sq, rfl, ?_⟩
    by_cases l2 : ds.length = 2
    · refine ⟨false, bl_same2 (by rw [lv, l2]; rfl), ?_⟩
      match ds, l2, da, q, fin, len with
      | [n, m], _, da, q, fin, len =>
      cases da with
      | cons d1 da =>
      cases da with
      | cons d2 da =>
      cases da
      rename_i v1 v2
      refine ⟨_, rfl, a, _, rfl, sq, rfl, _, _, rfl, _, _, rfl, rfl, ?_⟩
      refine ⟨_, rfl, v1, n, rfl, d1, (fun z e => len _ rfl z (by rw [e]; exact List.mem_cons_self)), tg, fun H2 tb => ⟨_, rfl, ?_⟩⟩
      have y := q H2 tb
      have ew : wantD (.tuple [n, m]) = (nameD n && fewD m) := rfl
      rw [ew] at y
      cases en : nameD n with
      | false =>
        rw [en] at y
        exact y
      | true =>
        rw [en, Bool.true_and] at y
        rw [if_pos rfl]
        have d2' : Dp K H2 v2 m := dp_sameN (SameN.tab tg tb) d2
        refine ⟨_, rfl, v2, m, rfl, d2', _, rfl, ?_⟩
        cases m with
        | int k =>
          cases d2
          rw [show wholeD (.int k) = true from rfl, if_pos rfl]
          have ef : fewD (.int k) = (decide (1 ≤ k) && decide (k ≤ 4)) := rfl
          rw [ef] at y
          refine ⟨_, rfl, _, _, rfl, rfl, _, rfl, ?_⟩
          by_cases k1 : 1 ≤ k
          · rw [decide_eq_true k1] at y ⊢
            rw [if_pos rfl]
            exact ⟨_, _, rfl, rfl, y⟩
          · rw [decide_eq_false k1] at y ⊢
            exact y
        | _ => exact y
    · refine ⟨true, bl_not2 (fun e => l2 (by injection e with e; omega)), ?_⟩
      exact fin (want_two l2)
  · refine ⟨_, rfl, _, _, _, _, false, rfl, .ty _, ty_dp dp, kit_ty h2, false, rfl, ?_⟩
    exact fin (want_no h1)
theorem dpAll_two {K : PySem.W.Frag} {H : Hp} : ∀ {vs : List V} {ps : List (Str × Int)}, DpAll K H vs (ps.map fun p => .tuple [.str p.1, .int p.2]) →
    ∃ ts : List Addr, vs = ts.map V.ref ∧ ts.length = ps.length ∧ ∀ (i : Nat) (t : Addr) (p : Str × Int), ts[i]? = some t → ps[i]? = some p → SqT K H t [.str p.1, .int p.2]
  | [], [], _ => ⟨[], rfl, rfl, fun i t p h => by simp at h⟩
  | _ :: _, [], h => nomatch h
  | [], _ :: _, h => nomatch h
  | v :: vs, p :: ps, h => by
    cases h with
    | cons h1 h2 =>
    obtain ⟨ts, rfl, l, e⟩ := dpAll_two h2
    cases h1 with
    | @tup a xs _ sq d =>
    cases d with
    | cons d1 d =>
    cases d with
    | cons d2 d =>
    cases d
    cases d1
    cases d2
    refine ⟨a :: ts, rfl, by rw [List.length_cons, List.length_cons, l], fun i t q a1 a2 => ?_⟩
    cases i with
    | zero =>
      cases a1
      cases a2
      exact sq
    | succ j => exact e j t q a1 a2
theorem sum_bound : ∀ {l : List Int}, (∀ k ∈ l, 1 ≤ k ∧ k ≤ 4) → 0 ≤ l.sum ∧ l.sum ≤ 4 * l.length
  | [], _ => by simp
  | k :: r, h => by
    have a := h k List.mem_cons_self
    have b := sum_bound fun j hj => h j (List.mem_cons_of_mem _ hj)
    rw [List.sum_cons, List.length_cons]
    omega
def spRise (K : PySem.W.Frag) : Sp := fun vs H Q _ => ∃ (a : Addr) (ts : List Addr) (ps : List (Str × Int)), vs = [.ref a] ∧ SqT K H a (ts.map V.ref) ∧ ts.length = ps.length ∧ (∀ (i : Nat) (t : Addr) (p : Str × Int), ts[i]? = some t → ps[i]? = some p → SqT K H t [.str p.1, .int p.2]) ∧ ps.length ≤ 60 ∧
  (∀ p ∈ ps, PyData.strOk p.1 = true) ∧ ∀ H', Same H H' → Q (.bl (decide ((ps.map (·.1)).Pairwise ltS))) H'
abbrev nRise : List Str := ["wants", "books", "book", "many"]
theorem scRise : FnScope nRise ["wants"] (defScope sRise) := ⟨rfl, rfl, rfl, by decide +kernel, rfl, by decide +kernel, by decide +kernel⟩
theorem ok_rise {f : Addr} {fd : FuncData} (F : Fun K "books_rise" "books_rise" sRise f fd) (B : Bi mg) : FnOk P w K mg base CX0 1 f fd ["wants"] (spRise K) := by
  refine F.ok scRise (fun vs H Q E h => ?_) (fun cdv A outer s H vs Q E hr h => ?_)
  · obtain ⟨a, ts, ps, rfl, _⟩ := h
    rfl
  obtain ⟨a, ts, ps, rfl, sq, len, each, few, ok, q⟩ := h
  refine ⟨_, pss_cons (ps_setLc (i := 1) (own := [("book", 2), ("many", 3)]) (g := gTup K 2 (gCons (gName 2) (gCons (gName 3) gNil))) (tt := tYes) (by rfl) scRise.nd rfl rfl (sw_true rfl rfl rfl (by decide +kernel)) (pi_tup (pv 0))
        (blkOk_by (own := [("book", 2), ("many", 3)]) (N := nRise) (sc := defScope sRise) (by decide +kernel))
        (fun _ _ _ _ _ => pg_tup rfl (pgs_cons (pg_name (i := 2) scRise.nd rfl (.inl rfl)) (pgs_cons (pg_name (i := 3) scRise.nd rfl (.inl rfl)) pgs_nil))) (fun _ _ _ _ _ => pts_nil) (fun _ _ _ _ _ => pv 2))
    (pss_one (ps_ret (pe_cmpR (op_eqD hr.units) (pv 1) (pe_sortSet rfl (by rfl) B.sorted (by rfl) B.set (pv 1)) (nomark _)))), ?_⟩
  refine ⟨_, rfl, a, rfl, ⟨_, sq⟩, fun D hD => lc_tup (K := K) (a := a) (xs := ts.map V.ref) (fun i H' => Same H H' ∧ H' D = some (.lst (((ps.take i).map (·.1)).map V.str)))
    ⟨same_new hD _, upd_same⟩ (fun i H' _ h' => same_tup h'.1 sq) ?_ ?_⟩
  · rintro i x H1 hx ⟨s1, hD1⟩
    obtain ⟨t, ht, rfl⟩ := refs_get hx
    have hi : i < ps.length := by
      rw [← len]
      exact (List.getElem?_eq_some_iff.mp ht).1
    have hp : ps[i]? = some ps[i] := List.getElem?_eq_getElem hi
    refine ⟨t, _, rfl, same_tup s1 (each i t _ ht hp), rfl, _, _, rfl, _, _, rfl, rfl, rfl, _, rfl, _, hD1, ?_, same_put s1 hD, ?_⟩
    · rw [List.length_map, List.length_map, List.length_take]
      exact small1000 (by omega)
    · rw [upd_same, List.take_add_one, hp, List.map_append, List.map_append]
      rfl
  · rintro H1 ⟨s1, hD1⟩
    rw [List.length_map, len, List.take_length] at hD1
    have lp : (ps.map (·.1)).length = ps.length := List.length_map ..
    refine ⟨_, rfl, _, rfl, D, ps.map (·.1), rfl, sql hD1, by omega, fun ys p so nd mem np => ?_⟩
    have s2 := same_new np (.lst (ys.map V.str))
    have okL : ∀ b ∈ ps.map (·.1), PyData.strOk b = true := fun b hb => by
      obtain ⟨z, hz, rfl⟩ := List.mem_map.mp hb
      exact ok z hz
    have f1 : Fine 1 (.list ((ps.map (·.1)).map PyData.str)) := fine_strs (ss := ps.map fun x : Str × Int => x.1) (by omega) okL 0
    have ly : ys.length ≤ (ps.map (·.1)).length := nodup_le nd fun z hz => (mem z).mp hz
    have f2 : Fine 1 (.list (ys.map PyData.str)) := fine_strs (ss := ys) (by omega) (fun b hb => okL b ((mem b).mp hb)) 0
    refine ⟨_, _, .lst (sql (s2 _ _ hD1)) (dpAll_strs _), .lst (sql upd_same) (dpAll_strs _), fine_shaped f1 (by decide), fine_shaped f2 (by decide), ?_⟩
    rw [eqvL_strs, rise_iff so nd mem]
    exact q _ (s1.trans s2)
def spAreWants (K : PySem.W.Frag) (Ps : List Addr) : Sp := fun vs H Q _ => ∃ (v : V) (d : PyData), vs = [v] ∧ Dp K H v d ∧ (∀ ds, d = .tuple ds → ∀ es, .tuple es ∈ ds → ∀ z, .str z ∈ es → z.length ≤ 1000) ∧ Tabs H Ps ∧
  ∀ H', SameN H H' → Tabs H' Ps → Q (.bl (wantsD d)) H'
theorem scAreWants : FnScope ["thing"] ["thing"] (defScope sAreWants) := ⟨rfl, rfl, rfl, by decide +kernel, rfl, by decide +kernel, by decide +kernel⟩
theorem ok_areWants {f c Pn Pw : Addr} {Ps : List Addr} {fd : FuncData} (F : Fun K "are_wants" "are_wants" sAreWants f fd) (hc : fd.code = .ref c) (TB : GxR.TabB base mg c Pw) (iN : Pn ∈ Ps) (iW : Pw ∈ Ps) (B : Bi mg) {tk tk2 : Tok} (mgB : mg "MOST_WANTED_BOOKS" = some (.int 5 tk)) (mgR : mg "MOST_READERS" = some (.int 7 tk2))
    (cW : Has P w K mg base 2 "is_want" ["thing"] (spWant K Pn)) (cR : Has P w K mg base 1 "books_rise" ["wants"] (spRise K)) : FnOk P w K mg base CX0 4 f fd ["thing"] (spAreWants K Ps) := by
  obtain ⟨oc, od, kV, doc, pm, an, cdv, ct, osl, rfl, lk, hcd⟩ := F.ex
  refine fn_of lk hcd scAreWants (fun vs H Q E h => ?_) fun A outer s H vs Q E hr h => ?_
  · obtain ⟨v, d, rfl, _⟩ := h
    rfl
  obtain ⟨v, d, rfl, dp, len, tg, q⟩ := h
  have hc' : cdv = .ref c := hc
  subst hc'
  refine ⟨_, PSs.nox (pss_cons (ps_if (pt_not (pt_val (pe_callB call_isi (by rfl) B.isinstance (by decide +kernel) (pa_cons (pv 0) (pa_cons (pe_bltn (v := .ty "tuple") (by rfl) B.tuple (by decide +kernel) rfl) pa_nil))))) (pss_one (ps_ret pe_bl)) pss_nil)
    (pss_cons (ps_if (pt_not (pt_chain op_le op_le pe_int (pe_callB call_len_seq (by rfl) B.len PySem.boot_len (pa_cons (pv 0) pa_nil)) (pe_glob (v := .int 5) (by rfl) mgB ⟨_, rfl⟩))) (pss_one (ps_ret pe_bl)) pss_nil)
    (pss_cons (ps_if (pt_not (pt_val (pe_allN (k := 2) (tel := tCall (spWant K Pn) [] E0 (tCons (tVar 1) tNil)) hr (by rfl) B.all TB rfl ⟨rfl, rfl, by decide +kernel, rfl, rfl, by decide⟩ (pv 0) (fun A C code s4 H4 I rA => pe_go cW rA (Nat.le_refl _) rfl (pa_cons (pv 1) pa_nil))))) (pss_one (ps_ret pe_bl)) pss_nil)
    (pss_one (ps_ret (pe_and (pe_go cR hr (by decide) rfl (pa_cons (pv 0) pa_nil)) (pe_one (pe_cmpR op_le (pe_sumG hr (by rfl) B.sum TB rfl ⟨rfl, rfl, by decide +kernel, rfl, rfl, rfl, by decide⟩ (pv 0)) (pe_glob (v := .int 7) (by rfl) mgR ⟨_, rfl⟩) (nomark _))))))))), ?_⟩
  have tp := tg Pw iW
  have fin : wantsD d = false → Q (.bl false) H := fun e => by
    have y := q H (SameN.refl H) tg
    rw [e] at y
    exact y
  rcases kind_tup dp with ⟨ds, rfl⟩ | ⟨h1, h2⟩
  · cases dp with
    | @tup a vs _ sq da =>
    have lv := dpAll_len da
    refine ⟨_, rfl, _, _, _, _, true, rfl, .ty _, (show TyX K H (.ref a) (.type "tuple") from ty_dp (.tup sq da)), kit_ty (by decide +kernel), true, rfl, ?_⟩
    refine ⟨_, rfl, a, _, rfl, .inr sq, _, _, rfl, rfl, _, rfl, ite2 (fun c1 => ?_) (fun c1 => ?_)⟩
    · have d1 : 1 ≤ ds.length := by
        have y := of_decide_eq_true c1
        omega
      refine ⟨_, _, rfl, rfl, _, rfl, ?_⟩
      by_cases d2 : ds.length ≤ 5
      · have e2 : decide ((vs.length : Int) ≤ 5) = true := decide_eq_true (by omega)
        rw [e2]
        refine ⟨_, rfl, a, vs, atD wantD ds, fun _ H' => SameN H H' ∧ (∀ b, H b = none → H' b = none) ∧ Tabs H' Ps, rfl, sq, tp, fun H2 tb => ?_, fun i H' w => ⟨w.1.tup sq, w.2.1⟩, ?_, ?_⟩
        · refine ⟨SameN.tab tp tb, fun b hb => ?_, tg.tab tb⟩
          by_cases e : b = Pw
          · obtain ⟨ps, h, _⟩ := tp
            rw [e, h] at hb
            cases hb
          · rw [tb.2 b e]
            exact hb
        · rintro J i H' v hv ⟨sn, nn, tg'⟩
          have tn' := tg' Pn iN
          obtain ⟨d, ed, dd⟩ := dpAll_get da hv
          refine ⟨_, rfl, v, d, rfl, dp_sameN sn dd, fun es e z hz => len ds rfl es (by rw [← e]; exact List.mem_of_getElem? ed) z hz, tn', fun H3 tb => ⟨?_, sn.trans (SameN.tab tn' tb), fun b hb => ?_, tg'.tab tb⟩⟩
          · rw [atD_some ed]
          · have y := nn b hb
            by_cases e : b = Pn
            · obtain ⟨ps, h, _⟩ := tn'
              rw [e, h] at y
              cases y
            · rw [tb.2 b e]
              exact y
        · rintro j H' ⟨sn, nn, tg'⟩
          have ea := all_at wantD ds
          rw [lv, ea]
          refine ⟨_, rfl, ?_⟩
          have y : ∀ H2, SameN H H2 → Tabs H2 Ps → Q (.bl (wantsD (.tuple ds))) H2 := fun H2 a b => q H2 a b
          rw [wantsD_tup, decide_eq_true d1, decide_eq_true d2, Bool.true_and, Bool.true_and] at y
          cases en : ds.all wantD with
          | false =>
            rw [en, Bool.false_and, Bool.false_and] at y
            exact y H' sn tg'
          | true =>
            rw [en, Bool.true_and] at y
            have aw := fun d hd => List.all_eq_true.mp en d hd
            have et := pairs_all aw
            have pw := pairs_want aw
            have lt : (pairs_ ds).length = ds.length := by
              have z := congrArg List.length et
              rw [List.length_map] at z
              exact z.symm
            obtain ⟨ts, ev, lts, each⟩ := dpAll_two (K := K) (H := H) (vs := vs) (ps := pairs_ ds) (by rw [← et]; exact da)
            subst ev
            have sq' := sn.tup sq
            have each' : ∀ (i : Nat) (t : Addr) (p : Str × Int), ts[i]? = some t → (pairs_ ds)[i]? = some p → SqT K H' t [.str p.1, .int p.2] := fun i t p h1 h2 => sn.tup (each i t p h1 h2)
            refine ⟨_, rfl, a, ts, pairs_ ds, rfl, sq', lts, each', by omega, fun p hp => name_ok (pw p hp).1, fun H3 s3 => ⟨_, rfl, ?_⟩⟩
            have tg3 := tg'.same s3
            cases er : decide (((pairs_ ds).map (·.1)).Pairwise ltS) with
            | false =>
              rw [er, Bool.false_and] at y
              exact y H3 (sn.trans (SameN.of s3)) tg3
            | true =>
              rw [er, Bool.true_and] at y
              rw [if_pos rfl]
              refine ⟨_, rfl, a, ts, (pairs_ ds).map fun p => (V.str p.1, p.2), rfl, same_tup s3 sq', by rw [List.length_map]; exact lts, fun i t p h1 h2 => ?_, ?_, tg3 Pw iW, fun H4 tb => ?_⟩
              · rw [List.getElem?_map] at h2
                cases e3 : (pairs_ ds)[i]? with
                | none =>
                  rw [e3] at h2
                  cases h2
                | some z =>
                  rw [e3] at h2
                  cases h2
                  exact same_tup s3 (each' i t z h1 e3)
              · have es : ((pairs_ ds).map fun p => (V.str p.1, p.2)).map (·.2) = (pairs_ ds).map (·.2) := by
                  rw [List.map_map]
                  rfl
                intro l el j hj
                rw [el, es] at hj ⊢
                have bnd : ∀ k ∈ (pairs_ ds).map (·.2), 1 ≤ k ∧ k ≤ 4 := fun k hk => by
                  obtain ⟨p, hp, rfl⟩ := List.mem_map.mp hk
                  exact (pw p hp).2
                have ll : ((pairs_ ds).map (·.2)).length ≤ 5 := by rw [List.length_map]; omega
                refine ⟨?_, ?_⟩
                · rw [List.getD_eq_getElem?_getD, List.getElem?_eq_getElem hj]
                  have z := bnd _ (List.getElem_mem hj)
                  show InLong ((some ((pairs_ ds).map (·.2))[j]).getD 0)
                  unfold InLong
                  show -(2 ^ 63) ≤ ((pairs_ ds).map (·.2))[j] ∧ ((pairs_ ds).map (·.2))[j] < 2 ^ 63
                  omega
                · have z := sum_bound (l := ((pairs_ ds).map (·.2)).take (j + 1)) fun k hk => bnd k (List.mem_of_mem_take hk)
                  have z2 : (((pairs_ ds).map (·.2)).take (j + 1)).length ≤ 5 := by
                    rw [List.length_take]
                    omega
                  unfold InLong
                  omega
              · have es : (((pairs_ ds).map fun p => (V.str p.1, p.2)).map (·.2)).sum = ((pairs_ ds).map (·.2)).sum := by
                  rw [List.map_map]
                  rfl
                rw [es]
                refine ⟨_, _, rfl, rfl, ?_⟩
                exact y H4 ((sn.trans (SameN.of s3)).trans (SameN.tab (tg3 Pw iW) tb)) (tg3.tab tb)
      · have e2 : decide ((vs.length : Int) ≤ 5) = false := decide_eq_false (by omega)
        rw [e2]
        refine fin ?_
        rw [wantsD_tup, decide_eq_false d2, Bool.and_false, Bool.false_and, Bool.false_and, Bool.false_and]
    · have d1 : ¬ 1 ≤ ds.length := fun y => c1 (decide_eq_true (by omega))
      refine ⟨_, rfl, fin ?_⟩
      rw [wantsD_tup, decide_eq_false d1, Bool.false_and, Bool.false_and, Bool.false_and, Bool.false_and]
  · refine ⟨_, rfl, _, _, _, _, false, rfl, .ty _, ty_dp dp, kit_ty h2, false, rfl, ?_⟩
    exact fin (wants_no h1)
end
end Lt

set_option Elab.async false
set_option linter.all false
set_option maxRecDepth 100000
set_option maxHeartbeats 4000000
namespace Lt
open PySem PySem.Spec PyProof.Rows L2
section
variable {P : Program} {w : World} {K : PySem.W.Frag} {mg : Str → Option Value} {base : Heap} {X : Cx}
theorem scLWhole : FnScope ["item"] ["item"] (defScope sLWhole) := ⟨rfl, rfl, rfl, by decide +kernel, rfl, by decide +kernel, by decide +kernel⟩
theorem ok_lWhole {f : Addr} {fd : FuncData} (F : Fun K "_law_whole" "_law_whole" sLWhole f fd) (B : Bi mg) : FnOk P w K mg base CX0 1 f fd ["item"] (spWhole K) := by
  refine F.ok scLWhole (fun vs H Q E h => ?_) (fun cdv A outer s H vs Q E hr h => ?_)
  · obtain ⟨v, d, rfl, _⟩ := h
    rfl
  obtain ⟨v, d, rfl, dp, q⟩ := h
  refine ⟨_, pss_one (ps_ret (pe_and (pe_callB call_isi (by rfl) B.isinstance (by decide +kernel) (pa_cons (pv 0) (pa_cons (pe_bltn (v := .ty "int") (by rfl) B.int (by decide +kernel) rfl) pa_nil)))
    (pe_one (pe_not (pe_callB call_isi (by rfl) B.isinstance (by decide +kernel) (pa_cons (pv 0) (pa_cons (pe_bltn (v := .ty "bool") (by rfl) B.bool (by decide +kernel) rfl) pa_nil))))))), ?_⟩
  have ty := ty_dp dp
  cases dp with
  | non => exact ⟨_, rfl, _, _, _, _, false, rfl, .ty _, ty, kit_ty (show kitB "NoneType" "int" = some false by decide +kernel), false, rfl, q⟩
  | bl b => exact ⟨_, rfl, _, _, _, _, true, rfl, .ty _, ty, kit_ty (show kitB "bool" "int" = some true by decide +kernel), true, rfl, _, rfl, _, _, _, _, true, rfl, .ty _, ty, kit_ty (show kitB "bool" "bool" = some true by decide +kernel), true, rfl, q⟩
  | int i => exact ⟨_, rfl, _, _, _, _, true, rfl, .ty _, ty, kit_ty (show kitB "int" "int" = some true by decide +kernel), true, rfl, _, rfl, _, _, _, _, false, rfl, .ty _, ty, kit_ty (show kitB "int" "bool" = some false by decide +kernel), false, rfl, q⟩
  | str z => exact ⟨_, rfl, _, _, _, _, false, rfl, .ty _, ty, kit_ty (show kitB "str" "int" = some false by decide +kernel), false, rfl, q⟩
  | lst h a => exact ⟨_, rfl, _, _, _, _, false, rfl, .ty _, ty, kit_ty (show kitB "list" "int" = some false by decide +kernel), false, rfl, q⟩
  | tup h a => exact ⟨_, rfl, _, _, _, _, false, rfl, .ty _, ty, kit_ty (show kitB "tuple" "int" = some false by decide +kernel), false, rfl, q⟩
def withinD (l h : Int) : PyData → Bool
  | .int k => decide (l ≤ k) && decide (k ≤ h)
  | _ => false
def spWithin (K : PySem.W.Frag) : Sp := fun vs H Q _ => ∃ (v : V) (d : PyData) (l h : Int), vs = [v, .int l, .int h] ∧ Dp K H v d ∧ Q (.bl (withinD l h d)) H
theorem scWithin : FnScope ["item", "low", "high"] ["item", "low", "high"] (defScope sWithin) := ⟨rfl, rfl, rfl, by decide +kernel, rfl, by decide +kernel, by decide +kernel⟩
theorem ok_within {f : Addr} {fd : FuncData} (F : Fun K "_law_within" "_law_within" sWithin f fd) (cW : Has P w K mg base 1 "_law_whole" ["item"] (spWhole K)) : FnOk P w K mg base CX0 2 f fd ["item", "low", "high"] (spWithin K) := by
  refine F.ok scWithin (fun vs H Q E h => ?_) (fun cdv A outer s H vs Q E hr h => ?_)
  · obtain ⟨v, d, l, h, rfl, _⟩ := h
    rfl
  obtain ⟨v, d, l, h, rfl, dp, q⟩ := h
  refine ⟨_, pss_one (ps_ret (pe_and (pe_go cW hr (by decide) rfl (pa_cons (pv 0) pa_nil)) (pe_one (pe_chain op_le op_le (pv 1) (pv 0) (pv 2))))), ?_⟩
  refine ⟨_, rfl, v, d, rfl, dp, _, rfl, ?_⟩
  cases dp with
  | int k =>
    rw [show wholeD (.int k) = true from rfl, if_pos rfl]
    refine ⟨_, rfl, _, rfl, _, _, rfl, rfl, _, rfl, ?_⟩
    have e : withinD l h (.int k) = (decide (l ≤ k) && decide (k ≤ h)) := rfl
    rw [e] at q
    by_cases c : l ≤ k
    · rw [decide_eq_true c] at q ⊢
      rw [if_pos rfl]
      exact ⟨_, rfl, _, _, rfl, rfl, q⟩
    · rw [decide_eq_false c] at q ⊢
      exact q
  | non => exact q
  | bl b => exact q
  | str z => exact q
  | lst a b => exact q
  | tup a b => exact q
def azS : Str := "abcdefghijklmnopqrstuvwxyz"
theorem az_small (c : Nat) : decide (c ∈ azS.cps.toList) = small c := by
  have e : azS.cps.toList = List.range' 97 26 := by decide +kernel
  rw [e]
  unfold small
  by_cases h : 97 ≤ c ∧ c ≤ 122
  · rw [decide_eq_true h.1, decide_eq_true h.2, decide_eq_true (List.mem_range'_1.mpr (by omega))]
    rfl
  · rw [decide_eq_false fun z => h (by have := List.mem_range'_1.mp z; omega)]
    by_cases h1 : 97 ≤ c
    · rw [decide_eq_true h1, decide_eq_false fun z => h ⟨h1, z⟩]
      rfl
    · rw [decide_eq_false h1]
      rfl
def signV (c : Nat) : V := .str ⟨#[c]⟩
def spLName (K : PySem.W.Frag) : Sp := fun vs H Q _ => ∃ (v : V) (d : PyData), vs = [v] ∧ Dp K H v d ∧ (∀ z, d = .str z → z.length ≤ 1000 ∧ PyData.strOk z = true) ∧ ∀ H', Same H H' → Q (.bl (nameD d)) H'
theorem scLName : FnScope ["item", "mark"] ["item"] (defScope sLName) := ⟨rfl, rfl, rfl, by decide +kernel, rfl, by decide +kernel, by decide +kernel⟩
theorem ok_lName {f : Addr} {fd : FuncData} (F : Fun K "_law_is_name" "_law_is_name" sLName f fd) (B : Bi mg) : FnOk P w K mg base CX0 1 f fd ["item"] (spLName K) := by
  refine F.ok scLName (fun vs H Q E h => ?_) (fun cdv A outer s H vs Q E hr h => ?_)
  · obtain ⟨v, d, rfl, _⟩ := h
    rfl
  obtain ⟨v, d, rfl, dp, len, q⟩ := h
  refine ⟨_, pss_cons (ps_if (PW.pt (pw_or (pt_not (pt_val (pe_callB call_isi (by rfl) B.isinstance (by decide +kernel) (pa_cons (pv 0) (pa_cons (pe_bltn (v := .ty "str") (by rfl) B.str (by decide +kernel) rfl) pa_nil)))))
      (pw_or1 (pt_not (pt_chain op_lt op_lt pe_int (pe_callB call_len_str (by rfl) B.len PySem.boot_len (pa_cons (pv 0) pa_nil)) pe_int))))) (pss_one (ps_ret pe_bl)) pss_nil)
    (pss_one (ps_ret (pe_cmpR (op_eqD hr.units) (pe_lc (own := [("mark", 1)]) (g := gName 1) (tt := tTest (tOp (fun x y H Q => ∃ (c : Nat) (z : Str), x = .str ⟨#[c]⟩ ∧ y = .str z ∧ Q (.bl (!decide (c ∈ z.cps.toList))) H) (tVar 1) (tC (.str azS)))) (by rfl) scLName.nd (pi_str (pv 0))
      (blkOk_by (own := [("mark", 1)]) (N := ["item", "mark"]) (sc := defScope sLName) (by decide +kernel)) (fun _ _ _ _ _ => pg_name (i := 1) scLName.nd rfl (.inl rfl)) (fun _ _ _ _ _ => pts_one (pt_cmpR op_notIn_sign (pv 1) pe_str (by rfl))) (fun _ _ _ _ _ => pv 1)) (pe_lst pa_nil) (nomark _)))), ?_⟩
  have fin : nameD d = false → Q (.bl false) H := fun e => by
    have y := q H fun _ _ h => h
    rw [e] at y
    exact y
  rcases kind_str dp with ⟨z, rfl⟩ | ⟨h1, h2⟩
  · cases dp
    obtain ⟨zl, zok⟩ := len z rfl
    refine ⟨_, rfl, _, _, _, _, true, rfl, .ty _, (show TyX K H (.str z) (.type "str") from .base (.str z)), kit_ty (by decide +kernel), true, rfl, ?_⟩
    refine ⟨_, rfl, z, rfl, by rw [sizeLine_eq]; omega, _, _, rfl, rfl, _, rfl, ite2 (fun c1 => ?_) (fun c1 => ?_)⟩
    · have d1 : 1 ≤ z.length := by
        have y := of_decide_eq_true c1
        omega
      refine ⟨_, _, rfl, rfl, _, rfl, ?_⟩
      by_cases d2 : z.length ≤ 8
      · have e2 : decide ((z.length : Int) < 9) = true := decide_eq_true (by omega)
        rw [e2]
        refine ⟨_, rfl, z, rfl, fun D hD => lc_it (walk_str (z := z)) (fun i H' => Same H H' ∧ H' D = some (.lst (((z.cps.toList.take i).filter fun c => !small c).map signV)))
          ⟨same_new hD _, upd_same⟩ (fun _ _ _ _ => trivial) ?_ ?_⟩
        · rintro i x H1 H2 hi ⟨s1, hD1⟩ ⟨rfl, c, hc, rfl⟩
          have hc' : z.cps.toList[i]? = some c := by rw [Array.getElem?_toList]; exact hc
          refine ⟨rfl, _, rfl, c, azS, rfl, rfl, ?_⟩
          have st : (z.cps.toList.take (i + 1)).filter (fun c => !small c) = (z.cps.toList.take i).filter (fun c => !small c) ++ [c].filter fun c => !small c := by
            rw [List.take_add_one, hc', List.filter_append]
            rfl
          rw [az_small]
          refine ⟨_, rfl, ?_⟩
          cases sm : small c with
          | true =>
            refine iteF ⟨s1, ?_⟩
            rw [st, filt_n (by rw [sm]; decide), List.append_nil]
            exact hD1
          | false =>
            refine iteT ⟨_, rfl, _, hD1, ?_, same_put s1 hD, ?_⟩
            · rw [List.length_map]
              have z1 := List.length_filter_le (fun c => !small c) (z.cps.toList.take i)
              have z2 : (z.cps.toList.take i).length ≤ 8 := by
                rw [List.length_take, Array.length_toList]
                have : z.cps.size = z.length := rfl
                omega
              exact small1000 (by omega)
            · rw [upd_same, st, filt_y (by rw [sm]; rfl), List.map_append]
              rfl
        · rintro H1 ⟨s1, hD1⟩
          have ez : z.cps.toList.take z.cps.size = z.cps.toList := List.take_of_length_le (by rw [Array.length_toList]; exact Nat.le_refl _)
          rw [ez] at hD1
          refine ⟨Nat.zero_le _, fun e he => ?_⟩
          have s2 := same_new he (.lst [])
          have em : ((z.cps.toList.filter fun c => !small c).map signV) = ((z.cps.toList.filter fun c => !small c).map fun c => (⟨#[c]⟩ : Str)).map V.str := by
            rw [List.map_map]
            rfl
          rw [em] at hD1
          have okM : ∀ b ∈ (z.cps.toList.filter fun c => !small c).map (fun c => (⟨#[c]⟩ : Str)), PyData.strOk b = true := fun b hb => by
            obtain ⟨c, hc, rfl⟩ := List.mem_map.mp hb
            have hz : z.cps.all (fun c => decide (c < 0x110000)) = true := zok
            rw [Array.all_eq_true'] at hz
            have y := hz c (by simpa using (List.mem_filter.mp hc).1)
            show (#[c] : Array Nat).all (fun c => decide (c < 0x110000)) = true
            rw [Array.all_eq_true']
            intro x hx
            have e : x = c := by simpa using hx
            rw [e]
            exact y
          have lM : ((z.cps.toList.filter fun c => !small c).map (fun c => (⟨#[c]⟩ : Str))).length ≤ 1000 := by
            rw [List.length_map]
            have z1 := List.length_filter_le (fun c => !small c) z.cps.toList
            have z2 : z.cps.toList.length = z.length := Array.length_toList
            omega
          have f1 : Fine 1 (.list (((z.cps.toList.filter fun c => !small c).map (fun c => (⟨#[c]⟩ : Str))).map PyData.str)) := fine_strs lM okM 0
          refine ⟨_, .list ([].map PyData.str), .lst (sql (s2 _ _ hD1)) (dpAll_strs _), .lst (sql upd_same) .nil, fine_shaped f1 (by decide), rfl, ?_⟩
          rw [eqvL_strs]
          have y := q _ (s1.trans s2)
          rw [nameD_str, decide_eq_true d1, decide_eq_true d2, Bool.true_and, Bool.true_and] at y
          have e3 : decide ((z.cps.toList.filter fun c => !small c).map (fun c => (⟨#[c]⟩ : Str)) = []) = z.cps.toList.all small := by
            rw [Bool.eq_iff_iff, decide_eq_true_iff, List.map_eq_nil_iff, List.filter_eq_nil_iff, List.all_eq_true]
            exact ⟨fun h c hc => by simpa using h c hc, fun h c hc => by rw [h c hc]; decide⟩
          rw [e3]
          exact y
      · have e2 : decide ((z.length : Int) < 9) = false := decide_eq_false (by omega)
        rw [e2]
        refine fin ?_
        rw [nameD_str, decide_eq_false d2, Bool.and_false, Bool.false_and]
    · have d1 : ¬ 1 ≤ z.length := fun y => c1 (decide_eq_true (by omega))
      refine ⟨_, rfl, fin ?_⟩
      rw [nameD_str, decide_eq_false d1, Bool.false_and, Bool.false_and]
  · refine ⟨_, rfl, _, _, _, _, false, rfl, .ty _, ty_dp dp, kit_ty h2, false, rfl, ?_⟩
    exact fin (name_no h1)

def spRises : Sp := fun vs H Q _ => ∃ (l : Addr) (ss : List Str), vs = [.ref l] ∧ H l = some (.lst (ss.map V.str)) ∧ ss.length ≤ 60 ∧ ∀ H', Same H H' → Q (.bl (decide (ss.Pairwise ltS))) H'
theorem scRises : FnScope ["some", "k"] ["some"] (defScope sRises) := ⟨rfl, rfl, rfl, by decide +kernel, rfl, by decide +kernel, by decide +kernel⟩
theorem ltS_trans {a b c : Str} (h : ltS a b) (k : ltS b c) : ltS a c := List.lt_trans h k
theorem near_pw {ss : List Str} (h : ∀ k, k + 1 < ss.length → ∀ a b, ss[k]? = some a → ss[k + 1]? = some b → ltS a b) : ss.Pairwise ltS := by
  induction ss with
  | nil => exact .nil
  | cons x r ih =>
    have ihr := ih fun k hk a b ha hb => h (k + 1) (by rw [List.length_cons]; omega) a b ha hb
    refine List.pairwise_cons.mpr ⟨fun y hy => ?_, ihr⟩
    cases r with
    | nil => exact nomatch hy
    | cons z t =>
      have xz := h 0 (by simp) x z rfl rfl
      rcases List.mem_cons.mp hy with e | hy
      · rw [e]
        exact xz
      · exact ltS_trans xz ((List.pairwise_cons.mp ihr).1 y hy)
theorem ok_rises {f : Addr} {fd : FuncData} (F : Fun K "_law_rises" "_law_rises" sRises f fd) (B : Bi mg) : FnOk P w K mg base CX0 1 f fd ["some"] spRises := by
  refine F.ok scRises (fun vs H Q E h => ?_) (fun cdv A outer s H vs Q E hr h => ?_)
  · obtain ⟨l, ss, rfl, _⟩ := h
    rfl
  obtain ⟨l, ss, rfl, hl, few, q⟩ := h
  refine ⟨_, pss_one (ps_ret (pe_cmpR (op_eqD hr.units) (pe_lc (own := [("k", 1)]) (g := gName 1) (tt := tNot (tTest (tOp (fun x y H Q => ∃ i j, x = .str i ∧ y = .str j ∧ Q (.bl (decide (i.cps.toList < j.cps.toList))) H) (tOp (rIxL K) (tVar 0) (tOp (rI0 fun i j => .int (i - j)) (tVar 1) (tC (.int 1)))) (tOp (rIxL K) (tVar 0) (tVar 1))))) (by rfl) scRises.nd
      (pi_range2 (by rfl) B.range (pa_cons pe_int (pa_cons (pe_callB call_len_seq (by rfl) B.len PySem.boot_len (pa_cons (pv 0) pa_nil)) pa_nil)))
      (blkOk_by (own := [("k", 1)]) (N := ["some", "k"]) (sc := defScope sRises) (by decide +kernel)) (fun _ _ _ _ _ => pg_name (i := 1) scRises.nd rfl (.inl rfl))
      (fun _ _ _ _ _ => pts_one (pt_not (pt_cmpR op_lt_str (pe_ix (ixL (K := K) rfl) (pv 0) (pe_op op_sub (pv 1) pe_int) (fun _ _ => rfl)) (pe_ix (ixL (K := K) rfl) (pv 0) (pv 1) (fun _ _ => rfl)) (nomark _)))) (fun _ _ _ _ _ => pv 1)) (pe_lst pa_nil) (nomark _))), ?_⟩
  have ls : (ss.map V.str).length = ss.length := List.length_map ..
  refine ⟨_, rfl, l, _, rfl, .inl (sql hl), 1, _, rfl, ⟨by decide, by decide, by omega, by omega⟩, fun D hD => ?_⟩
  rw [ls]
  refine lc_it (walk_range (lo := 1) (n := ((ss.length : Int) - 1).toNat)) (fun j H' => Same H H' ∧ ∃ bad : List Int, H' D = some (.lst (bad.map V.int)) ∧ bad.length ≤ j ∧ (bad = [] ↔ ∀ k, k < j → ∀ a b, ss[k]? = some a → ss[k + 1]? = some b → ltS a b))
    ⟨same_new hD _, [], upd_same, Nat.le_refl _, ⟨fun _ k hk => absurd hk (Nat.not_lt_zero _), fun _ => rfl⟩⟩ (fun _ _ _ _ => trivial) ?_ ?_
  · rintro j x H1 H2 hj ⟨s1, bad, hD1, lb, ib⟩ ⟨rfl, rfl⟩
    have h1 : ss[j]? = some (ss[j]'(by omega)) := List.getElem?_eq_getElem _
    have h2 : ss[j + 1]? = some (ss[j + 1]'(by omega)) := List.getElem?_eq_getElem _
    generalize ss[j]'(by omega) = a at h1
    generalize ss[j + 1]'(by omega) = b at h2
    refine ⟨rfl, _, rfl, _, rfl, _, _, rfl, rfl, l, _, _, .str a, rfl, rfl, sql (s1 _ _ hl), at_of (j := j) (by omega) (by rw [List.getElem?_map, h1]; rfl), _, rfl, _, rfl, l, _, _, .str b, rfl, rfl, sql (s1 _ _ hl), at_of (j := j + 1) (by omega) (by rw [List.getElem?_map, h2]; rfl), a, b, rfl, rfl, _, rfl, ?_⟩
    by_cases lt : ltS a b
    · have e : decide (a.cps.toList < b.cps.toList) = true := decide_eq_true lt
      rw [e]
      refine iteF ⟨s1, bad, hD1, by omega, ib.trans ⟨fun h k hk x y hx hy => ?_, fun h k hk => h k (by omega)⟩⟩
      by_cases ek : k = j
      · subst ek
        rw [h1] at hx
        rw [h2] at hy
        cases hx
        cases hy
        exact lt
      · exact h k (by omega) x y hx hy
    · have e : decide (a.cps.toList < b.cps.toList) = false := decide_eq_false lt
      rw [e]
      refine iteT ⟨_, rfl, _, hD1, ?_, same_put s1 hD, bad ++ [1 + (j : Int)], ?_, ?_, ?_⟩
      · rw [List.length_map]
        exact small1000 (by omega)
      · rw [upd_same, List.map_append]
        rfl
      · rw [List.length_append]
        show bad.length + 1 ≤ j + 1
        omega
      · constructor
        · intro h
          exact absurd h (by simp)
        · intro h
          exact absurd (h j (by omega) a b h1 h2) lt
  · rintro H1 ⟨s1, bad, hD1, lb, ib⟩
    refine ⟨Nat.zero_le _, fun e he => ?_⟩
    have s2 := same_new he (.lst [])
    have few2 : bad.length ≤ 60 := by omega
    have shB : SeqAt.shaped (.list (bad.map PyData.int)) = true := by
      refine shaped_of ?_ ?_
      · show PyData.canLayAll0 (bad.map PyData.int) = true
        exact canAll _ fun d hd => by
          obtain ⟨k, _, rfl⟩ := List.mem_map.mp hd
          rfl
      · show PyData.depthAll (bad.map PyData.int) + 1 ≤ 64
        have := depthAll_le (n := 1) (bad.map PyData.int) fun d hd => by
          obtain ⟨k, _, rfl⟩ := List.mem_map.mp hd
          simp [PyData.depth]
        omega
    refine ⟨.list (bad.map PyData.int), .list [], .lst (sql (s2 _ _ hD1)) (dpAll_ints _), .lst (sql upd_same) .nil, shB, rfl, ?_⟩
    have e1 : PyData.eqv (.list (bad.map PyData.int)) (.list []) = decide (ss.Pairwise ltS) := by
      have e2 : PyData.eqv (.list (bad.map PyData.int)) (.list []) = decide (bad = []) := by
        cases bad with
        | nil => rfl
        | cons x r => rfl
      rw [e2, decide_eq_decide, ib]
      constructor
      · intro h
        exact near_pw fun k hk a b ha hb => h k (by omega) a b ha hb
      · intro h k hk a b ha hb
        obtain ⟨ka, ea⟩ := List.getElem?_eq_some_iff.mp ha
        obtain ⟨kb, eb⟩ := List.getElem?_eq_some_iff.mp hb
        rw [← ea, ← eb]
        exact List.pairwise_iff_getElem.mp h k (k + 1) ka kb (by omega)
    rw [e1]
    exact q _ (s1.trans s2)

end
end Lt

set_option Elab.async false
set_option linter.all false
set_option maxRecDepth 100000
set_option maxHeartbeats 4000000
namespace Lt
open PySem PySem.Spec PyProof.Rows L2
section
variable {P : Program} {w : World} {K : PySem.W.Frag} {mg : Str → Option Value} {base : Heap} {X : Cx}
theorem dpAll_ones {K : PySem.W.Frag} {H : Hp} : ∀ n : Nat, DpAll K H (List.replicate n (V.int 1)) (List.replicate n (PyData.int 1))
  | 0 => .nil
  | n + 1 => .cons (.int _) (dpAll_ones n)
theorem shaped_ones {n : Nat} (h : n ≤ 60) : SeqAt.shaped (.list (List.replicate n (PyData.int 1))) = true := by
  have f : Fine 1 (.list ((List.replicate n 1).map fun k : Nat => PyData.int (k : Nat))) := ⟨by rw [List.length_map, List.length_replicate]; omega, fun d hd => by
    obtain ⟨k, _, rfl⟩ := List.mem_map.mp hd
    trivial⟩
  rw [List.map_replicate] at f
  exact fine_shaped f (by decide)
theorem eqv_ones (n : Nat) : PyData.eqv (.list (List.replicate n (PyData.int 1))) (.list []) = decide (n = 0) := by
  cases n with
  | zero => rfl
  | succ k => rfl
def spLPile (K : PySem.W.Frag) : Sp := fun vs H Q _ => ∃ (v : V) (d : PyData), vs = [v] ∧ Dp K H v d ∧ (∀ ds, d = .tuple ds → ∀ z, .str z ∈ ds → z.length ≤ 1000 ∧ PyData.strOk z = true) ∧ ∀ H', Same H H' → Q (.bl (pileD d)) H'
theorem scLPile : FnScope ["item", "book"] ["item"] (defScope sLPile) := ⟨rfl, rfl, rfl, by decide +kernel, rfl, by decide +kernel, by decide +kernel⟩
theorem ok_lPile {f : Addr} {fd : FuncData} (F : Fun K "_law_is_pile" "_law_is_pile" sLPile f fd) (B : Bi mg) (cN : Has P w K mg base 1 "_law_is_name" ["item"] (spLName K)) : FnOk P w K mg base CX0 2 f fd ["item"] (spLPile K) := by
  refine F.ok scLPile (fun vs H Q E h => ?_) (fun cdv A outer s H vs Q E hr h => ?_)
  · obtain ⟨v, d, rfl, _⟩ := h
    rfl
  obtain ⟨v, d, rfl, dp, len, q⟩ := h
  refine ⟨_, pss_cons (ps_if (PW.pt (pw_or (pt_not (pt_val (pe_callB call_isi (by rfl) B.isinstance (by decide +kernel) (pa_cons (pv 0) (pa_cons (pe_bltn (v := .ty "tuple") (by rfl) B.tuple (by decide +kernel) rfl) pa_nil)))))
      (pw_or1 (pt_not (pt_chain op_le op_le pe_int (pe_callB call_len_seq (by rfl) B.len PySem.boot_len (pa_cons (pv 0) pa_nil)) pe_int))))) (pss_one (ps_ret pe_bl)) pss_nil)
    (pss_one (ps_ret (pe_and (pe_cmpR (op_eqD hr.units) (pe_lc (own := [("book", 1)]) (g := gName 1) (tt := tNot (tB (tCall (spLName K) [] E0 (tCons (tVar 1) tNil)))) (te := tC (.int 1)) (by rfl) scLPile.nd (pi_tup (pv 0))
      (blkOk_by (own := [("book", 1)]) (N := ["item", "book"]) (sc := defScope sLPile) (by decide +kernel)) (fun _ _ _ _ _ => pg_name (i := 1) scLPile.nd rfl (.inl rfl)) (fun _ _ _ _ _ => pts_one (pt_not (pt_val (pe_go cN hr (by decide) rfl (pa_cons (pv 1) pa_nil))))) (fun _ _ _ _ _ => pe_int)) (pe_lst pa_nil) (nomark _))
      (pe_one (pe_cmpR op_eq (pe_lenSetT rfl (by rfl) B.len (by rfl) B.set (pv 0)) (pe_callB call_len_seq (by rfl) B.len PySem.boot_len (pa_cons (pv 0) pa_nil)) (nomark _)))))), ?_⟩
  have fin : pileD d = false → Q (.bl false) H := fun e => by
    have y := q H fun _ _ h => h
    rw [e] at y
    exact y
  rcases kind_tup dp with ⟨ds, rfl⟩ | ⟨h1, h2⟩
  · cases dp with
    | @tup a vs _ sq da =>
    have lv := dpAll_len da
    refine ⟨_, rfl, _, _, _, _, true, rfl, .ty _, (show TyX K H (.ref a) (.type "tuple") from ty_dp (.tup sq da)), kit_ty (by decide +kernel), true, rfl, ?_⟩
    refine ⟨_, rfl, a, _, rfl, .inr sq, _, _, rfl, rfl, _, rfl, ite2 (fun c1 => ?_) (fun c1 => ?_)⟩
    · have d1 : 1 ≤ ds.length := by
        have y := of_decide_eq_true c1
        omega
      refine ⟨_, _, rfl, rfl, _, rfl, ?_⟩
      by_cases d2 : ds.length ≤ 7
      · have e2 : decide ((vs.length : Int) ≤ 7) = true := decide_eq_true (by omega)
        rw [e2]
        refine ⟨_, rfl, a, rfl, ⟨_, sq⟩, fun D hD => lc_tup (K := K) (a := a) (xs := vs) (fun i H' => Same H H' ∧ ∃ n : Nat, H' D = some (.lst (List.replicate n (V.int 1))) ∧ n ≤ i ∧ (n = 0 ↔ (ds.take i).all nameD = true))
          ⟨same_new hD _, 0, upd_same, Nat.le_refl _, ⟨fun _ => rfl, fun _ => rfl⟩⟩ (fun i H' _ h' => same_tup h'.1 sq) ?_ ?_⟩
        · rintro i x H1 hx ⟨s1, n, hD1, ni, nz⟩
          obtain ⟨dx, ed, dd⟩ := dpAll_get da hx
          have hi : i < ds.length := (List.getElem?_eq_some_iff.mp ed).1
          refine ⟨rfl, _, rfl, x, dx, rfl, dp_same s1 dd, fun z e => len ds rfl z (by rw [← e]; exact List.mem_of_getElem? ed), fun H2 s2 => ⟨_, rfl, ?_⟩⟩
          have st : (ds.take (i + 1)).all nameD = ((ds.take i).all nameD && nameD dx) := by
            rw [List.take_add_one, ed, List.all_append]
            show (_ && (nameD dx && true)) = _
            rw [Bool.and_true]
          have hD2 := s2 _ _ hD1
          cases en : nameD dx with
          | true =>
            refine iteF ⟨s1.trans s2, n, hD2, by omega, ?_⟩
            rw [st, en, Bool.and_true]
            exact nz
          | false =>
            refine iteT ⟨_, hD2, ?_, same_put (s1.trans s2) hD, n + 1, ?_, by omega, ?_⟩
            · rw [List.length_replicate]
              exact small1000 (by omega)
            · rw [upd_same, ← List.replicate_succ']
            · rw [st, en, Bool.and_false]
              exact ⟨fun h => absurd h (by omega), fun h => nomatch h⟩
        · rintro H1 ⟨s1, n, hD1, ni, nz⟩
          rw [lv, List.take_length] at nz
          refine ⟨Nat.zero_le _, fun e he => ?_⟩
          have s2 := same_new he (.lst [])
          have s12 := s1.trans s2
          refine ⟨.list (List.replicate n (PyData.int 1)), .list [], .lst (sql (s2 _ _ hD1)) (dpAll_ones n), .lst (sql upd_same) .nil, shaped_ones (by omega), rfl, _, rfl, ?_⟩
          rw [eqv_ones]
          have y := q _ s12
          rw [pileD_tup, decide_eq_true d1, decide_eq_true d2, Bool.true_and, Bool.true_and] at y
          cases en : ds.all nameD with
          | false =>
            rw [en, Bool.false_and] at y
            have e3 : decide (n = 0) = false := decide_eq_false fun h => by
              have z := nz.mp h
              rw [en] at z
              cases z
            rw [e3]
            exact y
          | true =>
            rw [en, Bool.true_and] at y
            have e3 : decide (n = 0) = true := decide_eq_true (nz.mpr en)
            rw [e3, if_pos rfl]
            have et := txts_all fun d hd => List.all_eq_true.mp en d hd
            have lt : (txts ds).length = ds.length := by
              have z := congrArg List.length et
              rw [List.length_map] at z
              exact z.symm
            have ev : vs = (txts ds).map V.str := dpAll_txts (by rw [← et]; exact da)
            refine ⟨_, rfl, a, txts ds, rfl, by rw [← ev]; exact same_tup s12 sq, by omega, _, rfl, a, _, rfl, .inr (same_tup s12 sq), rfl, ?_⟩
            have e3 : decide (V.int ((dist (txts ds) : Nat) : Int) = V.int ((vs.length : Nat) : Int)) = decide (dist (txts ds) = ds.length) := by
              rw [decide_eq_decide, lv]
              exact ⟨fun z => by injection z with z; omega, fun z => by rw [z]⟩
            show Q (.bl (decide (V.int ((dist (txts ds) : Nat) : Int) = V.int ((vs.length : Nat) : Int)))) _
            rw [e3]
            exact y
      · have e2 : decide ((vs.length : Int) ≤ 7) = false := decide_eq_false (by omega)
        rw [e2]
        refine fin ?_
        rw [pileD_tup, decide_eq_false d2, Bool.and_false, Bool.false_and, Bool.false_and]
    · have d1 : ¬ 1 ≤ ds.length := fun y => c1 (decide_eq_true (by omega))
      refine ⟨_, rfl, fin ?_⟩
      rw [pileD_tup, decide_eq_false d1, Bool.false_and, Bool.false_and, Bool.false_and]
  · refine ⟨_, rfl, _, _, _, _, false, rfl, .ty _, ty_dp dp, kit_ty h2, false, rfl, ?_⟩
    exact fin (pile_no h1)
end
end Lt

set_option Elab.async false
set_option linter.all false
set_option maxRecDepth 100000
set_option maxHeartbeats 4000000
namespace Lt
open PySem PySem.Spec PyProof.Rows L2
theorem within_few (d : PyData) : withinD 1 4 d = fewD d := by cases d <;> rfl
section
variable {P : Program} {w : World} {K : PySem.W.Frag} {mg : Str → Option Value} {base : Heap} {X : Cx}
def spLWants (K : PySem.W.Frag) : Sp := fun vs H Q _ => ∃ (v : V) (d : PyData), vs = [v] ∧ Dp K H v d ∧ (∀ ds, d = .tuple ds → ∀ es, .tuple es ∈ ds → ∀ z, .str z ∈ es → z.length ≤ 1000 ∧ PyData.strOk z = true) ∧ ∀ H', Same H H' → Q (.bl (wantsD d)) H'
theorem scLWants : FnScope ["item", "one"] ["item"] (defScope sLWants) := ⟨rfl, rfl, rfl, by decide +kernel, rfl, by decide +kernel, by decide +kernel⟩
theorem ok_lWants {f : Addr} {fd : FuncData} (F : Fun K "_law_are_wants" "_law_are_wants" sLWants f fd) (B : Bi mg) (cN : Has P w K mg base 1 "_law_is_name" ["item"] (spLName K)) (cW : Has P w K mg base 2 "_law_within" ["item", "low", "high"] (spWithin K)) (cR : Has P w K mg base 1 "_law_rises" ["some"] spRises) :
    FnOk P w K mg base CX0 3 f fd ["item"] (spLWants K) := by
  refine F.ok scLWants (fun vs H Q E h => ?_) (fun cdv A outer s H vs Q E hr h => ?_)
  · obtain ⟨v, d, rfl, _⟩ := h
    rfl
  obtain ⟨v, d, rfl, dp, len, q⟩ := h
  refine ⟨_, pss_cons (ps_if (PW.pt (pw_or (pt_not (pt_val (pe_callB call_isi (by rfl) B.isinstance (by decide +kernel) (pa_cons (pv 0) (pa_cons (pe_bltn (v := .ty "tuple") (by rfl) B.tuple (by decide +kernel) rfl) pa_nil)))))
      (pw_or1 (pt_not (pt_chain op_le op_le pe_int (pe_callB call_len_seq (by rfl) B.len PySem.boot_len (pa_cons (pv 0) pa_nil)) pe_int))))) (pss_one (ps_ret pe_bl)) pss_nil)
    (pss_cons (ps_for PassesOwn.never rfl (pi_tup (pv 0)) (pg_name (i := 1) scLWants.nd rfl (.inl rfl))
      (pss_one (ps_if (PW.pt (pw_or (pt_not (pt_val (pe_callB call_isi (by rfl) B.isinstance (by decide +kernel) (pa_cons (pv 1) (pa_cons (pe_bltn (v := .ty "tuple") (by rfl) B.tuple (by decide +kernel) rfl) pa_nil)))))
        (pw_or (pt_cmpR op_ne (pe_callB call_len_seq (by rfl) B.len PySem.boot_len (pa_cons (pv 1) pa_nil)) pe_int (nomark _))
        (pw_or (pt_not (pt_val (pe_go cN hr (by decide) rfl (pa_cons (pe_ix ix_tup (pv 1) pe_int (fun _ _ => rfl)) pa_nil))))
        (pw_or1 (pt_not (pt_val (pe_go cW hr (by decide) rfl (pa_cons (pe_ix ix_tup (pv 1) pe_int (fun _ _ => rfl)) (pa_cons pe_int (pa_cons pe_int pa_nil))))))))))) (pss_one (ps_ret pe_bl)) pss_nil)))
    (pss_one (ps_ret (pe_and (pe_go cR hr (by decide) rfl (pa_cons (pe_lc (own := [("one", 1)]) (g := gName 1) (tt := tYes) (te := tOp (rIxT K) (tVar 1) (tC (.int 0))) (by rfl) scLWants.nd (pi_tup (pv 0))
        (blkOk_by (own := [("one", 1)]) (N := ["item", "one"]) (sc := defScope sLWants) (by decide +kernel)) (fun _ _ _ _ _ => pg_name (i := 1) scLWants.nd rfl (.inl rfl)) (fun _ _ _ _ _ => pts_nil) (fun _ _ _ _ _ => pe_ix (ixT (K := K) rfl) (pv 1) pe_int (fun _ _ => rfl))) pa_nil))
      (pe_one (pe_cmpR op_le (pe_callB (cr_sum rfl) (by rfl) B.sum (by decide +kernel) (pa_cons (pe_lc (own := [("one", 1)]) (g := gName 1) (tt := tYes) (te := tOp (rIxT K) (tVar 1) (tC (.int 1))) (by rfl) scLWants.nd (pi_tup (pv 0))
        (blkOk_by (own := [("one", 1)]) (N := ["item", "one"]) (sc := defScope sLWants) (by decide +kernel)) (fun _ _ _ _ _ => pg_name (i := 1) scLWants.nd rfl (.inl rfl)) (fun _ _ _ _ _ => pts_nil) (fun _ _ _ _ _ => pe_ix (ixT (K := K) rfl) (pv 1) pe_int (fun _ _ => rfl))) pa_nil)) pe_int (nomark _))))))), ?_⟩
  have fin : wantsD d = false → ∀ H', Same H H' → Q (.bl false) H' := fun e H' s => by
    have y := q H' s
    rw [e] at y
    exact y
  rcases kind_tup dp with ⟨ds, rfl⟩ | ⟨h1, h2⟩
  · cases dp with
    | @tup a vs _ sq da =>
    have lv := dpAll_len da
    refine ⟨_, rfl, _, _, _, _, true, rfl, .ty _, (show TyX K H (.ref a) (.type "tuple") from ty_dp (.tup sq da)), kit_ty (by decide +kernel), true, rfl, ?_⟩
    refine ⟨_, rfl, a, _, rfl, .inr sq, _, _, rfl, rfl, _, rfl, ite2 (fun c1 => ?_) (fun c1 => ?_)⟩
    · have d1 : 1 ≤ ds.length := by
        have y := of_decide_eq_true c1
        omega
      refine ⟨_, _, rfl, rfl, _, rfl, ?_⟩
      by_cases d2 : ds.length ≤ 5
      · have e2 : decide ((vs.length : Int) ≤ 5) = true := decide_eq_true (by omega)
        rw [e2]
        have notAll : ∀ {dx : PyData}, dx ∈ ds → wantD dx = false → wantsD (.tuple ds) = false := fun {dx} hm e => by
          have z : ds.all wantD = false := by
            rw [Bool.eq_false_iff]
            intro h
            rw [List.all_eq_true.mp h dx hm] at e
            cases e
          rw [wantsD_tup, z, Bool.and_false, Bool.false_and, Bool.false_and]
        refine ⟨_, rfl, a, rfl, ⟨_, sq⟩, for_tup (K := K) (a := a) (xs := vs) (fun i σ H' => (∃ y1 : Option V, σ = [some (.ref a), y1]) ∧ Same H H' ∧ ∀ d ∈ ds.take i, wantD d = true)
          ⟨⟨_, rfl⟩, fun _ _ h => h, fun d hd => by rw [List.take_zero] at hd; exact nomatch hd⟩ (fun i σ H' _ h' => same_tup h'.2.1 sq) ?_ ?_⟩
        · rintro i x σ H1 hx ⟨⟨y1, rfl⟩, s1, ok⟩
          obtain ⟨dx, ed, dd⟩ := dpAll_get da hx
          have hm : dx ∈ ds := List.mem_of_getElem? ed
          have dd1 := dp_same s1 dd
          rcases kind_tup dd with ⟨es, rfl⟩ | ⟨g1, g2⟩
          · cases dd1 with
            | @tup b us _ sq2 db =>
            have lu := dpAll_len db
            refine ⟨_, rfl, _, _, _, _, true, rfl, .ty _, (show TyX K H1 (.ref b) (.type "tuple") from ty_dp (.tup sq2 db)), kit_ty (by decide +kernel), true, rfl, ?_⟩
            refine ⟨_, rfl, b, _, rfl, .inr sq2, rfl, ?_⟩
            by_cases l2 : es.length = 2
            · refine ⟨false, bl_same2 (by rw [lu, l2]; rfl), ?_⟩
              match es, l2, db, hm, ed, dd with
              | [n, m], _, db, hm, ed, dd =>
              cases db with
              | cons db1 db =>
              cases db with
              | cons db2 db =>
              cases db
              rename_i v1 v2
              refine ⟨_, rfl, b, _, 0, v1, rfl, rfl, sq2, rfl, v1, n, rfl, db1, (fun z e => len ds rfl _ hm z (by rw [e]; exact List.mem_cons_self)), fun H2 s2 => ⟨_, rfl, ?_⟩⟩
              have ew : wantD (.tuple [n, m]) = (nameD n && fewD m) := rfl
              cases en : nameD n with
              | false =>
                rw [en, Bool.false_and] at ew
                exact fin (notAll hm ew) _ (s1.trans s2)
              | true =>
                refine ⟨_, rfl, b, _, 1, v2, rfl, rfl, same_tup s2 sq2, rfl, v2, m, 1, 4, rfl, dp_same s2 db2, _, rfl, ?_⟩
                rw [within_few]
                rw [en, Bool.true_and] at ew
                cases ef : fewD m with
                | false =>
                  rw [ef] at ew
                  exact fin (notAll hm ew) _ (s1.trans s2)
                | true =>
                  rw [ef] at ew
                  refine ⟨⟨_, rfl⟩, s1.trans s2, fun d hd => ?_⟩
                  rw [List.take_add_one, ed] at hd
                  rcases List.mem_append.mp hd with hd | hd
                  · exact ok d hd
                  · rw [show d = .tuple [n, m] by simpa using hd]
                    exact ew
            · refine ⟨true, bl_not2 (fun e => l2 (by injection e with e; omega)), ?_⟩
              exact fin (notAll hm (want_two l2)) _ s1
          · refine ⟨_, rfl, _, _, _, _, false, rfl, .ty _, ty_dp dd1, kit_ty g2, false, rfl, ?_⟩
            exact fin (notAll hm (want_no g1)) _ s1
        · rintro σ H1 ⟨⟨y1, rfl⟩, s1, ok⟩
          rw [lv, List.take_length] at ok
          have et := pairs_all ok
          have pw := pairs_want ok
          have lt : (pairs_ ds).length = ds.length := by
            have z := congrArg List.length et
            rw [List.length_map] at z
            exact z.symm
          obtain ⟨ts, ev, lts, each⟩ := dpAll_two (K := K) (H := H) (vs := vs) (ps := pairs_ ds) (by rw [← et]; exact da)
          subst ev
          have y := fun H' s => q H' s
          have en : ds.all wantD = true := List.all_eq_true.mpr ok
          rw [wantsD_tup, decide_eq_true d1, decide_eq_true d2, Bool.true_and, Bool.true_and, en, Bool.true_and] at y
          have get : ∀ (i : Nat) (t : Addr), ts[i]? = some t → ∃ p, (pairs_ ds)[i]? = some p ∧ SqT K H t [.str p.1, .int p.2] := fun i t ht => by
            have hi : i < (pairs_ ds).length := by
              rw [← lts]
              exact (List.getElem?_eq_some_iff.mp ht).1
            exact ⟨_, List.getElem?_eq_getElem hi, each i t _ ht (List.getElem?_eq_getElem hi)⟩
          refine ⟨_, rfl, a, rfl, ⟨_, same_tup s1 sq⟩, fun D hD => lc_tup (K := K) (a := a) (xs := ts.map V.ref) (fun i H' => Same H H' ∧ H' D = some (.lst ((((pairs_ ds).take i).map fun p => p.1).map V.str)))
            ⟨s1.trans (same_new hD _), upd_same⟩ (fun i H' _ h' => same_tup h'.1 sq) ?_ ?_⟩
          · rintro i x H2 hx ⟨s2, hD2⟩
            obtain ⟨t, ht, rfl⟩ := refs_get hx
            obtain ⟨p, hp, sp⟩ := get i t ht
            refine ⟨rfl, _, rfl, t, _, 0, _, rfl, rfl, same_tup s2 sp, rfl, _, hD2, ?_, ?_, ?_⟩
            · rw [List.length_map, List.length_map, List.length_take]
              exact small1000 (by omega)
            · exact fun b' o h => by
                rw [upd_ne (ne_of_none (s1 _ _ h) hD)]
                exact s2 _ _ h
            · rw [upd_same, List.take_add_one, hp, List.map_append, List.map_append]
              rfl
          rintro H2 ⟨s2, hD2⟩
          rw [List.length_map, lts, List.take_length] at hD2
          refine ⟨D, _, rfl, hD2, by rw [List.length_map]; omega, fun H3 s3 => ⟨_, rfl, ?_⟩⟩
          have s13 := s2.trans s3
          have er0 : decide (((pairs_ ds).map fun p => p.1).Pairwise ltS) = decide (((pairs_ ds).map (·.1)).Pairwise ltS) := rfl
          rw [er0]
          cases er : decide (((pairs_ ds).map (·.1)).Pairwise ltS) with
          | false =>
            rw [er, Bool.false_and] at y
            exact y H3 s13
          | true =>
            rw [er, Bool.true_and] at y
            rw [if_pos rfl]
            refine ⟨_, rfl, a, rfl, ⟨_, same_tup s13 sq⟩, fun D2 hD3 => lc_tup (K := K) (a := a) (xs := ts.map V.ref) (fun i H' => Same H H' ∧ H' D2 = some (.lst ((((pairs_ ds).take i).map fun p => p.2).map V.int)))
              ⟨s13.trans (same_new hD3 _), upd_same⟩ (fun i H' _ h' => same_tup h'.1 sq) ?_ ?_⟩
            · rintro i x H4 hx ⟨s4, hD4⟩
              obtain ⟨t, ht, rfl⟩ := refs_get hx
              obtain ⟨p, hp, sp⟩ := get i t ht
              refine ⟨rfl, _, rfl, t, _, 1, _, rfl, rfl, same_tup s4 sp, rfl, _, hD4, ?_, ?_, ?_⟩
              · rw [List.length_map, List.length_map, List.length_take]
                exact small1000 (by omega)
              · exact fun b' o h => by
                  rw [upd_ne (ne_of_none (s13 _ _ h) hD3)]
                  exact s4 _ _ h
              · rw [upd_same, List.take_add_one, hp, List.map_append, List.map_append]
                rfl
            rintro H4 ⟨s4, hD4⟩
            rw [List.length_map, lts, List.take_length] at hD4
            refine ⟨D2, _, rfl, sql hD4, _, _, rfl, rfl, ?_⟩
            exact y H4 s4
      · have e2 : decide ((vs.length : Int) ≤ 5) = false := decide_eq_false (by omega)
        rw [e2]
        refine fin ?_ _ fun _ _ h => h
        rw [wantsD_tup, decide_eq_false d2, Bool.and_false, Bool.false_and, Bool.false_and, Bool.false_and]
    · have d1 : ¬ 1 ≤ ds.length := fun y => c1 (decide_eq_true (by omega))
      refine ⟨_, rfl, fin ?_ _ fun _ _ h => h⟩
      rw [wantsD_tup, decide_eq_false d1, Bool.false_and, Bool.false_and, Bool.false_and, Bool.false_and]
  · refine ⟨_, rfl, _, _, _, _, false, rfl, .ty _, ty_dp dp, kit_ty h2, false, rfl, ?_⟩
    exact fin (wants_no h1) _ fun _ _ h => h
end
end Lt

set_option Elab.async false
set_option linter.all false
set_option maxRecDepth 100000
set_option maxHeartbeats 4000000
namespace Lt
open PySem PySem.Spec PyProof.Rows L2
/-! ### lists of tuples -/
def RowsL {α : Type} (f : α → List V) (H : Hp) (ts : List Addr) (qs : List α) : Prop := ts.length = qs.length ∧ ∀ (i : Nat) (t : Addr) (q : α), ts[i]? = some t → qs[i]? = some q → H t = some (.tup (f q))
theorem RowsL.nil {α : Type} {f : α → List V} (H : Hp) : RowsL f H [] [] := ⟨rfl, fun i t q h => by simp at h⟩
theorem RowsL.move {α : Type} {f : α → List V} {H H' : Hp} {ts : List Addr} {qs : List α} (h : RowsL f H ts qs) (k : KeepT H H') : RowsL f H' ts qs := ⟨h.1, fun i t q a b => k _ _ (h.2 i t q a b)⟩
theorem RowsL.snoc {α : Type} {f : α → List V} {H : Hp} {ts : List Addr} {qs : List α} {t : Addr} {q : α} (h : RowsL f H ts qs) (ht : H t = some (.tup (f q))) : RowsL f H (ts ++ [t]) (qs ++ [q]) := by
  obtain ⟨h1, h2⟩ := h
  refine ⟨by rw [List.length_append, List.length_append, h1]; rfl, fun i u r a b => ?_⟩
  by_cases hi : i < ts.length
  · rw [List.getElem?_append_left hi] at a
    rw [List.getElem?_append_left (by omega)] at b
    exact h2 i u r a b
  · rw [List.getElem?_append_right (by omega)] at a
    rw [List.getElem?_append_right (by omega), ← h1] at b
    cases e : i - ts.length with
    | zero =>
      rw [e] at a b
      cases a
      cases b
      exact ht
    | succ n =>
      rw [e] at a
      cases a
theorem RowsL.mem {α : Type} {f : α → List V} {H : Hp} {ts : List Addr} {qs : List α} (h : RowsL f H ts qs) {t : Addr} (ht : t ∈ ts) : ∃ q ∈ qs, H t = some (.tup (f q)) := by
  obtain ⟨i, hi, rfl⟩ := List.mem_iff_getElem.mp ht
  have hq : i < qs.length := by
    rw [← h.1]
    exact hi
  exact ⟨qs[i], List.getElem_mem hq, h.2 i _ _ (List.getElem?_eq_getElem hi) (List.getElem?_eq_getElem hq)⟩
abbrev turnV (q : Nat × Str) : List V := [natV q.1, .str q.2]
/-- the pair that stands there -/
def pairAt (H : Hp) (t : Addr) : Nat × Str := match H t with
  | some (.tup [.int i, .str b]) => (i.toNat, b)
  | _ => (0, Str.empty)
theorem pairAt_eq {H : Hp} {t : Addr} {q : Nat × Str} (h : H t = some (.tup (turnV q))) : pairAt H t = q := by
  unfold pairAt
  rw [h]
  show (((q.1 : Nat) : Int).toNat, q.2) = q
  rw [Int.toNat_natCast]
theorem rows_pairs {H : Hp} : ∀ {ts : List Addr} {qs : List (Nat × Str)}, RowsL turnV H ts qs → ts.map (pairAt H) = qs := by
  intro ts qs h
  refine List.ext_getElem (by rw [List.length_map]; exact h.1) fun i h1 h2 => ?_
  rw [List.getElem_map]
  exact pairAt_eq (h.2 i _ _ (List.getElem?_eq_getElem _) (List.getElem?_eq_getElem _))
theorem turns_take {ws : List (Str × Nat)} {i : Nat} {p : Str × Nat} (h : ws[i]? = some p) : turnsM (ws.take (i + 1)) = turnsM (ws.take i) ++ (List.range p.2).map fun t => (t, p.1) := by
  rw [List.take_add_one, h]
  unfold turnsM
  rw [List.flatMap_append]
  show _ ++ ((List.range p.2).map _ ++ []) = _
  rw [List.append_nil]
theorem turns_len (ws : List (Str × Nat)) : (turnsM ws).length = topW ws := by
  rw [← top_flat, ← turns_flat, List.length_map]
theorem top_take (ws : List (Str × Nat)) (i : Nat) : topW (ws.take i) ≤ topW ws := by
  rw [← top_flat, ← top_flat]
  exact flat_take i
end Lt

set_option Elab.async false
set_option linter.all false
set_option maxRecDepth 100000
set_option maxHeartbeats 4000000
/-! data that leaves some addresses out -/
namespace Lt
open PySem PySem.Spec PyProof.Rows L2
def cutH (H : Hp) (A : List Addr) : Hp := fun b => if b ∈ A then none else H b
theorem cutH_in {H : Hp} {A : List Addr} {b : Addr} (h : b ∈ A) : cutH H A b = none := if_pos h
theorem cutH_out {H : Hp} {A : List Addr} {b : Addr} (h : b ∉ A) : cutH H A b = H b := if_neg h
theorem cutH_sub (H : Hp) (A : List Addr) : Same (cutH H A) H := fun b o h => by
  by_cases c : b ∈ A
  · rw [cutH_in c] at h
    cases h
  · rw [cutH_out c] at h
    exact h
theorem cutH_less {H : Hp} {A B : List Addr} (s : ∀ b ∈ A, b ∈ B) : Same (cutH H B) (cutH H A) := fun b o h => by
  by_cases c : b ∈ B
  · rw [cutH_in c] at h
    cases h
  · rw [cutH_out c] at h
    rw [cutH_out fun z => c (s b z)]
    exact h
theorem cutH_sameT {T : Addr} {H H' : Hp} {A : List Addr} (hT : T ∈ A) (s : SameT T H H') : Same (cutH H A) (cutH H' A) := fun b o h => by
  by_cases c : b ∈ A
  · rw [cutH_in c] at h
    cases h
  · rw [cutH_out c] at h ⊢
    exact s b o (fun e => c (e ▸ hT)) h
theorem cutH_same {H H' : Hp} {A : List Addr} (s : Same H H') : Same (cutH H A) (cutH H' A) := fun b o h => by
  by_cases c : b ∈ A
  · rw [cutH_in c] at h
    cases h
  · rw [cutH_out c] at h ⊢
    exact s b o h
theorem cutH_put {H : Hp} {A : List Addr} {D : Addr} {o : HO} (h : D ∈ A) : cutH (upd H D o) A = cutH H A := by
  funext b
  by_cases c : b ∈ A
  · rw [cutH_in c, cutH_in c]
  · rw [cutH_out c, cutH_out c, upd_ne (fun e : b = D => c (by rw [e]; exact h))]
theorem cutH_sameN {H H' : Hp} {A : List Addr} (s : SameN H H') : SameN (cutH H A) (cutH H' A) := fun b o h n => by
  by_cases c : b ∈ A
  · rw [cutH_in c] at h
    cases h
  · rw [cutH_out c] at h ⊢
    exact s b o h n
/-- all that is left out stands -/
def Taken (H : Hp) (A : List Addr) : Prop := ∀ b ∈ A, H b ≠ none
theorem Taken.new {H : Hp} {A : List Addr} (t : Taken H A) {p : Addr} (h : H p = none) : p ∉ A := fun z => t p z h
theorem Taken.sameT {T : Addr} {H H' : Hp} {A : List Addr} (t : Taken H A) (s : SameT T H H') (hT : H' T ≠ none) : Taken H' A := fun b hb => by
  by_cases e : b = T
  · rw [e]
    exact hT
  · intro z
    exact t b hb (s.free e z)
theorem Taken.same {H H' : Hp} {A : List Addr} (t : Taken H A) (s : Same H H') : Taken H' A := fun b hb z => t b hb (s.free z)
theorem Taken.cons {H : Hp} {A : List Addr} {D : Addr} (t : Taken H A) (h : H D ≠ none) : Taken H (D :: A) := fun b hb => by
  rcases List.mem_cons.mp hb with e | hb
  · rw [e]
    exact h
  · exact t b hb
theorem Taken.put {H : Hp} {A : List Addr} {D : Addr} {o : HO} (t : Taken H A) : Taken (upd H D o) A := fun b hb => by
  by_cases e : b = D
  · rw [e, upd_same]
    exact fun z => nomatch z
  · rw [upd_ne e]
    exact t b hb
theorem Tape.tak {H : Hp} {T S : Addr} {ns : List Int} (t : Tape H T S ns) : H T ≠ none := by
  obtain ⟨o, ho⟩ := t.taken
  rw [ho]
  exact fun z => nomatch z
/-- at most n deep, rows and texts of at most b -/
def Bd : Nat → Nat → PyData → Prop
  | 0, b, d => match d with
    | .str z => z.length ≤ b ∧ PyData.strOk z = true
    | .list _ => False
    | .tuple _ => False
    | .dict _ => False
    | _ => True
  | n + 1, b, d => match d with
    | .str z => z.length ≤ b ∧ PyData.strOk z = true
    | .list ds => ds.length ≤ b ∧ ∀ e ∈ ds, Bd n b e
    | .tuple ds => ds.length ≤ b ∧ ∀ e ∈ ds, Bd n b e
    | .dict _ => False
    | _ => True
theorem Bd.mono : ∀ {n b m c : Nat} {d : PyData}, Bd n b d → n ≤ m → b ≤ c → Bd m c d
  | 0, b, 0, c, d, h, hn, hb => by
    cases d <;> first | trivial | exact h | exact ⟨Nat.le_trans h.1 hb, h.2⟩
  | 0, b, m + 1, c, d, h, hn, hb => by
    cases d with
    | str z => exact ⟨Nat.le_trans h.1 hb, h.2⟩
    | list ds => exact h.elim
    | tuple ds => exact h.elim
    | dict ds => exact h.elim
    | _ => trivial
  | n + 1, b, 0, c, d, h, hn, hb => absurd hn (by omega)
  | n + 1, b, m + 1, c, d, h, hn, hb => by
    cases d with
    | str z => exact ⟨Nat.le_trans h.1 hb, h.2⟩
    | list ds => exact ⟨Nat.le_trans h.1 hb, fun e he => (h.2 e he).mono (by omega) hb⟩
    | tuple ds => exact ⟨Nat.le_trans h.1 hb, fun e he => (h.2 e he).mono (by omega) hb⟩
    | dict ds => exact h.elim
    | _ => trivial
theorem Bd.int (n b : Nat) (i : Int) : Bd n b (.int i) := by cases n <;> trivial
theorem Bd.bool (n b : Nat) (i : Bool) : Bd n b (.bool i) := by cases n <;> trivial
theorem Bd.none (n b : Nat) : Bd n b .none := by cases n <;> trivial
theorem Bd.str {n b : Nat} {z : Str} (h : z.length ≤ b) (k : PyData.strOk z = true) : Bd n b (.str z) := by cases n <;> exact ⟨h, k⟩
theorem Bd.txt {n b : Nat} {z : Str} (h : Bd n b (.str z)) : z.length ≤ b ∧ PyData.strOk z = true := by cases n <;> exact h
theorem Bd.tup {n b : Nat} {ds : List PyData} (h : Bd n b (.tuple ds)) : ∃ m, n = m + 1 ∧ ds.length ≤ b ∧ ∀ e ∈ ds, Bd m b e := by
  cases n with
  | zero => exact h.elim
  | succ m => exact ⟨m, rfl, h.1, h.2⟩
theorem Bd.lst {n b : Nat} {ds : List PyData} (h : Bd n b (.list ds)) : ∃ m, n = m + 1 ∧ ds.length ≤ b ∧ ∀ e ∈ ds, Bd m b e := by
  cases n with
  | zero => exact h.elim
  | succ m => exact ⟨m, rfl, h.1, h.2⟩
end Lt

set_option Elab.async false
set_option linter.all false
set_option maxRecDepth 100000
set_option maxHeartbeats 4000000
namespace Lt
open PySem PySem.Spec PyProof.Rows L2
section
variable {P : Program} {w : World} {K : PySem.W.Frag} {mg : Str → Option Value} {base : Heap} {X : Cx}
def spAny (K : PySem.W.Frag) (n : Nat) : Sp := fun vs H Q _ => ∃ (T S : Addr) (ns : List Int) (e : Nat) (A : List Addr), vs = [.ref T, natV e] ∧ Tape H T S ns ∧ T ∈ A ∧ Taken H A ∧ e + 1 ≤ n ∧ e ≤ 100 ∧
  ∀ (v : V) (d : PyData) (H' : Hp), SameT T H H' → Tape H' T S ns → Dp K (cutH H' A) v d → Bd (e + 1) 5 d → Q v H'
abbrev nAny : List Str := ["tape", "deep", "course", "some", "k"]
theorem scAny : FnScope nAny ["tape", "deep"] (defScope sAny) := ⟨rfl, rfl, rfl, by decide +kernel, rfl, by decide +kernel, by decide +kernel⟩
abbrev anyTxt : List Str := ["", " ", "a", "atlas", "1", "A", "a\nb"]
theorem anyTxt_ok : ∀ z ∈ anyTxt, z.length ≤ 5 ∧ PyData.strOk z = true := by decide +kernel
theorem any_step {f : Addr} {fd : FuncData} {n : Nat} (F : Fun K "_law_any" "_law_any" sAny f fd) (B : Bi mg) (cD : Has P w K mg base 1 "_law_draw" ["tape", "many"] spDraw) (cI : Has P w K mg base (n + 1) "_law_any" ["tape", "deep"] (spAny K n)) :
    FnOk P w K mg base CX0 (n + 2) f fd ["tape", "deep"] (spAny K (n + 1)) := by
  refine F.ok scAny (fun vs H Q E h => ?_) (fun cdv A outer s H vs Q E hr h => ?_)
  · obtain ⟨T, S, ns, e, A, rfl, _⟩ := h
    rfl
  obtain ⟨T, S, ns, e, AV, rfl, tp, hTA, tak, en, e100, q⟩ := h
  have one : 1 ≤ n + 1 := by omega
  refine ⟨_, pss_cons (ps_set (i := 2) scAny.nd rfl (.inl rfl) (pe_go cD hr one rfl (pa_cons (pv 0) (pa_cons pe_int pa_nil))))
    (Evl.pss_cut (ps_if (PW.pt (pw_and (pt_cmpR op_lt (pv 2) pe_int (nomark _)) (pw_and1 (pt_cmpR op_gt (pv 1) pe_int (nomark _)))))
      (pss_cons (ps_setLc (i := 3) (own := [("k", 4)]) (g := gName 4) (tt := tYes) (te := tCall (spAny K n) [] E0 (tCons (tVar 0) (tCons (tOp (rI0 fun i j => .int (i - j)) (tVar 1) (tC (.int 1))) tNil))) (by rfl) scAny.nd rfl rfl (sw_true rfl rfl rfl (by decide +kernel)) (pi_range1 (by rfl) B.range (pa_cons (pe_go cD hr one rfl (pa_cons (pv 0) (pa_cons pe_int pa_nil))) pa_nil))
          (blkOk_by (own := [("k", 4)]) (N := nAny) (sc := defScope sAny) (by decide +kernel)) (fun _ _ _ _ _ => pg_name (i := 4) scAny.nd rfl (.inl rfl)) (fun _ _ _ _ _ => pts_nil)
          (fun _ _ _ _ _ => pe_go cI hr (Nat.le_refl _) rfl (pa_cons (pv 0) (pa_cons (pe_op op_sub (pv 1) pe_int) pa_nil))))
      (pss_one (ps_ret (pe_ix ix_list (pe_lst (pa_cons (pv 3) (pa_cons (pe_callTy call_tupleZ (by rfl) B.tuple (by decide +kernel) (pa_cons (pv 3) pa_nil)) (pa_cons (pe_callTy call_tupleZ (by rfl) B.tuple (by decide +kernel) (pa_cons (pv 3) pa_nil)) (pa_cons (pe_callTy call_tupleZ (by rfl) B.tuple (by decide +kernel) (pa_cons (pv 3) pa_nil)) pa_nil))))) (pv 2) (fun _ _ => rfl))))) pss_nil)
    (pss_cons (ps_if (pt_cmpR op_lt (pv 2) pe_int (nomark _))
      (pss_one (ps_ret (pe_ix ix_list (pe_lst (pa_cons (pe_op op_sub (pe_go cD hr one rfl (pa_cons (pv 0) (pa_cons pe_int pa_nil))) pe_int) (pa_cons (pe_go cD hr one rfl (pa_cons (pv 0) (pa_cons (pe_op op_pow pe_int pe_int) pa_nil))) (pa_cons pe_int (pa_cons pe_int pa_nil))))) (pe_callB (call_max2 rfl) (by rfl) B.max (by decide +kernel) (pa_cons pe_int (pa_cons (pe_op op_sub (pv 2) pe_int) pa_nil))) (fun _ _ => rfl)))) pss_nil)
    (pss_cons (ps_set (i := 3) scAny.nd rfl (.inl rfl) (pe_lst (pa_cons pe_str (pa_cons pe_str (pa_cons pe_str (pa_cons pe_str (pa_cons pe_str (pa_cons pe_str (pa_cons pe_str pa_nil)))))))))
    (pss_one (ps_ret (pe_ix ix_list (pe_lst (pa_cons pe_bl (pa_cons pe_bl (pa_cons pe_non (pa_cons (pe_ix ix_list (pv 3) (pe_go cD hr one rfl (pa_cons (pv 0) (pa_cons pe_int pa_nil))) (fun _ _ => rfl)) (pa_cons (pe_tup (pa_cons pe_int (pa_cons pe_int pa_nil))) pa_nil)))))) (pe_op op_sub (pv 2) pe_int) (fun _ _ => rfl))))))), ?_⟩
  refine ⟨_, rfl, T, S, ns, 13, rfl, tp, by decide, by decide, fun c i1 c1 c0 c13 => ?_⟩
  have sm1 := sameT_put (T := T) (H := H) (.lst [.ref S, .int i1, .int c1])
  have tp1 := tp.put i1 c1
  have tak1 : Taken (upd H T (.lst [.ref S, .int i1, .int c1])) AV := tak.put
  generalize upd H T (.lst [.ref S, .int i1, .int c1]) = H1 at sm1 tp1 tak1 ⊢
  refine ⟨fun σ H' => σ = [some (.ref T), some (natV e), some (.int c), none, none] ∧ H' = H1, ?_, ?_⟩
  · refine ⟨_, rfl, _, _, rfl, rfl, _, rfl, ite2 (fun g => ?_) (fun _ => ⟨rfl, rfl⟩)⟩
    refine ⟨_, rfl, _, _, rfl, rfl, _, rfl, ite2 (fun g2 => ?_) (fun _ => ⟨rfl, rfl⟩)⟩
    have c4 : c < 4 := of_decide_eq_true g
    have e0 : 0 < e := by
      have z := of_decide_eq_true g2
      omega
    refine ⟨_, rfl, T, S, ns, 4, rfl, tp1, by decide, by decide, fun r i2 c2 r0 r4 => ?_⟩
    have sm2 := sm1.trans (sameT_put (T := T) (H := H1) (.lst [.ref S, .int i2, .int c2]))
    have tp2 := tp1.put i2 c2
    have tak2 : Taken (upd H1 T (.lst [.ref S, .int i2, .int c2])) AV := tak1.put
    generalize upd H1 T (.lst [.ref S, .int i2, .int c2]) = H2 at sm2 tp2 tak2 ⊢
    refine ⟨r, rfl, by omega, by omega, fun D hD => ?_⟩
    have nDA : D ∉ AV := tak2.new hD
    have nDT : D ≠ T := by
      obtain ⟨o, ho⟩ := tp2.taken
      exact new_ne ho hD
    refine lc_range (lo := 0) (n := r.toNat) (fun j H' => ∃ (vs : List V) (ds : List PyData), SameT T H2 H' ∧ Tape H' T S ns ∧ H' D = some (.lst vs) ∧ vs.length = j ∧ DpAll K (cutH H' (D :: AV)) vs ds ∧ ∀ d ∈ ds, Bd e 5 d)
      ⟨[], [], SameT.of (same_new hD _), tp2.same (same_new hD _), upd_same, rfl, .nil, fun d hd => nomatch hd⟩ ?_ ?_
    · rintro j H3 hj ⟨vs, ds, sm3, tp3, hD3, lv, da, bd⟩
      have tak3 : Taken H3 (D :: AV) := (tak2.sameT sm3 tp3.tak).cons (by rw [hD3]; exact fun z => nomatch z)
      refine ⟨rfl, _, rfl, _, rfl, _, _, rfl, rfl, T, S, ns, e - 1, D :: AV, ?_, tp3, List.mem_cons_of_mem _ hTA, tak3, by omega, by omega, fun v d H4 sm4 tp4 dv bv => ?_⟩
      · show [V.ref T, V.int ((e : Int) - 1)] = [V.ref T, V.int ((e - 1 : Nat) : Int)]
        congr 3
        omega
      have hD4 := sm4 _ _ nDT hD3
      refine ⟨_, hD4, ?_, vs ++ [v], ds ++ [d], ?_, ?_, upd_same, ?_, ?_, ?_⟩
      · exact small1000 (by omega)
      · exact fun b o nb hb => by
          rw [upd_ne (ne_of_none hb hD)]
          exact sm4 _ _ nb (sm3 _ _ nb hb)
      · obtain ⟨x1, x2, hT4⟩ := tp4.at_
        refine ⟨⟨x1, x2, by rw [upd_ne nDT.symm]; exact hT4⟩, ?_⟩
        rw [upd_ne (ne_of_none tp2.scr hD)]
        exact tp4.scr
      · rw [List.length_append, lv]
        rfl
      · rw [cutH_put List.mem_cons_self]
        exact dpAll_snoc (dpAll_same (cutH_sameT (List.mem_cons_of_mem _ hTA) sm4) da) dv
      · intro y hy
        rcases List.mem_append.mp hy with hy | hy
        · exact bd y hy
        · rw [List.mem_singleton.mp hy]
          have z : e - 1 + 1 = e := by omega
          rw [z] at bv
          exact bv
    · rintro H3 ⟨vs, ds, sm3, tp3, hD3, lv, da, bd⟩
      have l4 : vs.length ≤ 4 := by omega
      have ld := dpAll_len da
      refine ⟨_, rfl, _, rfl, D, _, rfl, sql hD3, fun t1 u1 ht1 hu1 => ?_⟩
      have s1 := same_new ht1 u1
      refine ⟨_, rfl, D, _, rfl, sql (s1 _ _ hD3), fun t2 u2 ht2 hu2 => ?_⟩
      have s2 := same_new ht2 u2
      refine ⟨_, rfl, D, _, rfl, sql (s2 _ _ (s1 _ _ hD3)), fun t3 u3 ht3 hu3 => ⟨(by show 4 ≤ sizeLine; decide), fun L hL => ?_⟩⟩
      have s3 := same_new ht3 u3
      have s4 := same_new hL (.lst [.ref D, .ref t1, .ref t2, .ref t3])
      have s14 := s1.trans (s2.trans (s3.trans s4))
      have tak3 := tak2.sameT sm3 tp3.tak
      have n1 := tak3.new ht1
      have n2 := (tak3.same s1).new ht2
      have n3 := (tak3.same (s1.trans s2)).new ht3
      have hD5 := s14 _ _ hD3
      have g1 := (s2.trans (s3.trans s4)) _ _ (upd_same (H := H3) (a := t1) (o := u1))
      have g2 := (s3.trans s4) _ _ (upd_same (H := upd H3 t1 u1) (a := t2) (o := u2))
      have g3 := s4 _ _ (upd_same (H := upd (upd H3 t1 u1) t2 u2) (a := t3) (o := u3))
      have sm5 := sm2.trans (sm3.trans (SameT.of s14))
      have tp5 := tp3.same s14
      have da5 := dpAll_same ((cutH_less (A := AV) (B := D :: AV) fun b hb => List.mem_cons_of_mem _ hb).trans (cutH_same s14)) da
      have hL5 : upd (upd (upd (upd H3 t1 u1) t2 u2) t3 u3) L (.lst [.ref D, .ref t1, .ref t2, .ref t3]) L = some (.lst [.ref D, .ref t1, .ref t2, .ref t3]) := upd_same
      generalize upd (upd (upd (upd H3 t1 u1) t2 u2) t3 u3) L (.lst [.ref D, .ref t1, .ref t2, .ref t3]) = H5 at hD5 g1 g2 g3 sm5 tp5 da5 hL5 ⊢
      have bL : Bd (e + 1) 5 (.list ds) := ⟨by omega, bd⟩
      have bT : Bd (e + 1) 5 (.tuple ds) := ⟨by omega, bd⟩
      have fz : ∀ {t : Addr} {u : HO}, H5 t = some u → IsFz u vs → t ∉ AV → Dp K (cutH H5 AV) (.ref t) (.tuple ds) := fun h f n => .tup (TpO.sqt ⟨_, by rw [cutH_out n]; exact h, f⟩) da5
      obtain ⟨v, d, ev, dv, bv⟩ : ∃ v d, atI [V.ref D, .ref t1, .ref t2, .ref t3] c = some v ∧ Dp K (cutH H5 AV) v d ∧ Bd (e + 1) 5 d := by
        have z : c = 0 ∨ c = 1 ∨ c = 2 ∨ c = 3 := by omega
        rcases z with rfl | rfl | rfl | rfl
        · exact ⟨_, _, rfl, .lst (sql (by rw [cutH_out nDA]; exact hD5)) da5, bL⟩
        · exact ⟨_, _, rfl, fz g1 hu1 n1, bT⟩
        · exact ⟨_, _, rfl, fz g2 hu2 n2, bT⟩
        · exact ⟨_, _, rfl, fz g3 hu3 n3, bT⟩
      exact ⟨_, rfl, L, _, _, v, rfl, rfl, sql hL5, ev, q v d _ sm5 tp5 dv bv⟩
  rintro σ H' ⟨rfl, rfl⟩
  refine ⟨_, rfl, _, _, rfl, rfl, _, rfl, ite2 (fun g => ?_) (fun g => ?_)⟩
  · have c8 : c < 8 := of_decide_eq_true g
    refine ⟨_, rfl, T, S, ns, 12, rfl, tp1, by decide, by decide, fun r1 i2 c2 _ _ => ?_⟩
    have sm2 := sm1.trans (sameT_put (T := T) (H := H') (.lst [.ref S, .int i2, .int c2]))
    have tp2 := tp1.put i2 c2
    generalize upd H' T (.lst [.ref S, .int i2, .int c2]) = H2 at sm2 tp2 ⊢
    refine ⟨_, _, rfl, rfl, _, rfl, _, _, rfl, rfl, ⟨by decide, by decide, by decide⟩, T, S, ns, 1000000000000, rfl, tp2, by decide, by decide, fun r2 i3 c3 _ _ => ?_⟩
    have sm3 := sm2.trans (sameT_put (T := T) (H := H2) (.lst [.ref S, .int i3, .int c3]))
    have tp3 := tp2.put i3 c3
    generalize upd H2 T (.lst [.ref S, .int i3, .int c3]) = H3 at sm3 tp3 ⊢
    refine ⟨(by show 4 ≤ sizeLine; decide), fun L hL => ⟨_, rfl, _, _, rfl, rfl, _, _, rfl, ?_⟩⟩
    have s4 := same_new hL (.lst [.int (r1 - 2), .int r2, .int 0, .int 7])
    obtain ⟨k, ek⟩ : ∃ k : Int, atI [V.int (r1 - 2), .int r2, .int 0, .int 7] (if c - 4 > 0 then c - 4 else 0) = some (.int k) := by
      have z : (if c - 4 > 0 then c - 4 else 0) = 0 ∨ (if c - 4 > 0 then c - 4 else 0) = 1 ∨ (if c - 4 > 0 then c - 4 else 0) = 2 ∨ (if c - 4 > 0 then c - 4 else 0) = 3 := by
        split <;> omega
      rcases z with z | z | z | z <;> rw [z] <;> exact ⟨_, rfl⟩
    exact ⟨L, _, _, .int k, rfl, rfl, sql upd_same, ek, q _ (.int k) _ (sm3.trans (SameT.of s4)) (tp3.same s4) (.int k) (Bd.int _ _ k)⟩
  · have c8 : ¬ c < 8 := fun z => g (decide_eq_true z)
    refine ⟨(by show 7 ≤ sizeLine; decide), fun L1 hL1 => ?_⟩
    have s2 := same_new hL1 (.lst (anyTxt.map V.str))
    have hL2 : upd H' L1 (.lst (anyTxt.map V.str)) L1 = some (.lst (anyTxt.map V.str)) := upd_same
    have tp2 := tp1.same s2
    have sm2 := sm1.trans (SameT.of s2)
    have nLT : L1 ≠ T := by
      obtain ⟨o, ho⟩ := tp1.taken
      exact new_ne ho hL1
    have tak2 := tak1.same s2
    refine ⟨_, rfl, _, rfl, T, S, ns, 7, rfl, tp2, by decide, by decide, fun r i3 c3 r0 r7 => ?_⟩
    have eL : (HO.lst (anyTxt.map V.str)) = .lst [.str "", .str " ", .str "a", .str "atlas", .str "1", .str "A", .str "a\nb"] := rfl
    rw [eL] at hL2 tp2 sm2 tak2
    have sm3 := sm2.trans (sameT_put (T := T) (H := upd H' L1 (.lst [.str "", .str " ", .str "a", .str "atlas", .str "1", .str "A", .str "a\nb"])) (.lst [.ref S, .int i3, .int c3]))
    have tp3 := tp2.put i3 c3
    have tak3 : Taken (upd (upd H' L1 (.lst [.str "", .str " ", .str "a", .str "atlas", .str "1", .str "A", .str "a\nb"])) T (.lst [.ref S, .int i3, .int c3])) AV := tak2.put
    have hL3 : upd (upd H' L1 (.lst [.str "", .str " ", .str "a", .str "atlas", .str "1", .str "A", .str "a\nb"])) T (.lst [.ref S, .int i3, .int c3]) L1 = some (.lst (anyTxt.map V.str)) := by
      rw [upd_ne nLT]
      exact hL2
    generalize upd (upd H' L1 (.lst [.str "", .str " ", .str "a", .str "atlas", .str "1", .str "A", .str "a\nb"])) T (.lst [.ref S, .int i3, .int c3]) = H3 at sm3 tp3 tak3 hL3 ⊢
    obtain ⟨k, rfl⟩ : ∃ k : Nat, r = (k : Int) := ⟨r.toNat, by omega⟩
    have hk : k < anyTxt.length := by
      show k < 7
      omega
    have ez : anyTxt[k]? = some anyTxt[k] := List.getElem?_eq_getElem hk
    have oz := anyTxt_ok _ (List.getElem_mem hk)
    generalize anyTxt[k] = z at ez oz
    refine ⟨L1, _, _, .str z, rfl, rfl, sql hL3, at_of rfl (by rw [List.getElem?_map, ez]; rfl), (by show 2 ≤ sizeLine; decide), fun t4 ht4 => ⟨(by show 5 ≤ sizeLine; decide), fun L5 hL5 => ?_⟩⟩
    have s4 := same_new ht4 (.tup [.int 1, .int 2])
    have s5 := same_new hL5 (.lst [.bl true, .bl false, .non, .str z, .ref t4])
    have g4 := s5 _ _ (upd_same (H := H3) (a := t4) (o := .tup [.int 1, .int 2]))
    have n4 := tak3.new ht4
    have hL6 : upd (upd H3 t4 (.tup [.int 1, .int 2])) L5 (.lst [.bl true, .bl false, .non, .str z, .ref t4]) L5 = some (.lst [.bl true, .bl false, .non, .str z, .ref t4]) := upd_same
    have sm5 := sm3.trans (SameT.of (s4.trans s5))
    have tp5 := tp3.same (s4.trans s5)
    generalize upd (upd H3 t4 (.tup [.int 1, .int 2])) L5 (.lst [.bl true, .bl false, .non, .str z, .ref t4]) = H5 at g4 hL6 sm5 tp5 ⊢
    obtain ⟨v, d, ev, dv, bv⟩ : ∃ v d, atI [V.bl true, .bl false, .non, .str z, .ref t4] (c - 8) = some v ∧ Dp K (cutH H5 AV) v d ∧ Bd (e + 1) 5 d := by
      have y : c - 8 = 0 ∨ c - 8 = 1 ∨ c - 8 = 2 ∨ c - 8 = 3 ∨ c - 8 = 4 := by omega
      rcases y with y | y | y | y | y <;> rw [y]
      · exact ⟨_, _, rfl, .bl true, Bd.bool _ _ _⟩
      · exact ⟨_, _, rfl, .bl false, Bd.bool _ _ _⟩
      · exact ⟨_, _, rfl, .non, Bd.none _ _⟩
      · exact ⟨_, _, rfl, .str z, Bd.str oz.1 oz.2⟩
      · refine ⟨_, .tuple [.int 1, .int 2], rfl, .tup (sqt (by rw [cutH_out n4]; exact g4)) (.cons (.int _) (.cons (.int _) .nil)), ⟨by show 2 ≤ 5; decide, fun d hd => ?_⟩⟩
        rcases List.mem_cons.mp hd with e1 | hd
        · rw [e1]
          exact Bd.int _ _ _
        · rw [List.mem_singleton.mp hd]
          exact Bd.int _ _ _
    exact ⟨_, rfl, _, _, rfl, rfl, L5, _, _, v, rfl, rfl, sql hL6, ev, q v d _ sm5 tp5 dv bv⟩
theorem any_all {f : Addr} {fd : FuncData} (F : Fun K "_law_any" "_law_any" sAny f fd) (B : Bi mg) (cD : Has P w K mg base 1 "_law_draw" ["tape", "many"] spDraw) (m : mg "_law_any" = some (.ref f)) (b : Binds K fd ["tape", "deep"] []) : ∀ n : Nat, FnOk P w K mg base CX0 (n + 1) f fd ["tape", "deep"] (spAny K n)
  | 0 => by
    have no : ∀ vs H Q E, ¬ spAny K 0 vs H Q E := fun vs H Q E h => by
      obtain ⟨_, _, _, _, _, _, _, _, _, h, _⟩ := h
      omega
    exact ⟨fun vs H Q E h => absurd h (no vs H Q E), fun A outer s H args us vs Q E _ _ _ _ h => absurd h (no vs H Q E)⟩
  | n + 1 => any_step F B cD ⟨f, fd, any_all F B cD m b n, m, F.kp, b⟩
end
end Lt

set_option Elab.async false
set_option linter.all false
set_option maxRecDepth 100000
set_option maxHeartbeats 4000000
namespace Lt
open PySem PySem.Spec PyProof.Rows L2
theorem cutH_fresh {T R : Addr} {H H' : Hp} {A : List Addr} (hT : T ∈ A) (s : SameT T H H') (hR : H R = none) : Same (cutH H A) (cutH H' (R :: A)) := fun b o h => by
  by_cases c : b ∈ A
  · rw [cutH_in c] at h
    cases h
  · rw [cutH_out c] at h
    have nb : b ∉ R :: A := fun z => by
      rcases List.mem_cons.mp z with e | z
      · rw [e, hR] at h
        cases h
      · exact c z
    rw [cutH_out nb]
    exact s b o (fun e => c (by rw [e]; exact hT)) h
section
variable {K : PySem.W.Frag} {H : Hp}
theorem dpAll_set : ∀ {vs : List V} {ds : List PyData} {v : V} {d : PyData}, DpAll K H vs ds → Dp K H v d → ∀ k : Nat, DpAll K H (vs.set k v) (ds.set k d)
  | _, _, _, _, .nil, _, _ => .nil
  | _, _, _, _, .cons a r, h, 0 => .cons h r
  | _, _, _, _, .cons a r, h, k + 1 => .cons a (dpAll_set r h k)
theorem dpAll_erase : ∀ {vs : List V} {ds : List PyData}, DpAll K H vs ds → ∀ k : Nat, DpAll K H (vs.eraseIdx k) (ds.eraseIdx k)
  | _, _, .nil, _ => .nil
  | _, _, .cons a r, 0 => r
  | _, _, .cons a r, k + 1 => .cons a (dpAll_erase r k)
theorem dpAll_take : ∀ {vs : List V} {ds : List PyData}, DpAll K H vs ds → ∀ k : Nat, DpAll K H (vs.take k) (ds.take k)
  | _, _, _, 0 => by
    rw [List.take_zero, List.take_zero]
    exact .nil
  | _, _, .nil, k + 1 => .nil
  | _, _, .cons a r, k + 1 => .cons a (dpAll_take r k)
theorem dpAll_drop : ∀ {vs : List V} {ds : List PyData}, DpAll K H vs ds → ∀ k : Nat, DpAll K H (vs.drop k) (ds.drop k)
  | _, _, h, 0 => h
  | _, _, .nil, k + 1 => .nil
  | _, _, .cons a r, k + 1 => dpAll_drop r k
theorem dpAll_rev : ∀ {vs : List V} {ds : List PyData}, DpAll K H vs ds → DpAll K H vs.reverse ds.reverse
  | _, _, .nil => .nil
  | _, _, .cons a r => by
    rw [List.reverse_cons, List.reverse_cons]
    exact dpAll_snoc (dpAll_rev r) a
end
def strCps (z : Str) : List Nat := z.cps.toList
theorem strOk_iff (z : Str) : PyData.strOk z = true ↔ ∀ c ∈ z.cps.toList, c < 0x110000 := by
  show z.cps.all (fun c => decide (c < 0x110000)) = true ↔ _
  rw [Array.all_eq_true']
  constructor
  · intro h c hc
    exact of_decide_eq_true (h c (by simpa using hc))
  · intro h c hc
    exact decide_eq_true (h c (by simpa using hc))
theorem strOk_app {y z : Str} (h : PyData.strOk y = true) (k : PyData.strOk z = true) : PyData.strOk (y ++ z) = true := by
  rw [strOk_iff] at *
  intro c hc
  have e : (y ++ z).cps.toList = y.cps.toList ++ z.cps.toList := by
    show (y.cps ++ z.cps).toList = _
    rw [Array.toList_append]
  rw [e] at hc
  rcases List.mem_append.mp hc with hc | hc
  · exact h c hc
  · exact k c hc
theorem len_app (y z : Str) : (y ++ z).length = y.length + z.length := by
  show (y.cps ++ z.cps).size = _
  rw [Array.size_append]
  rfl
theorem cutS_ok {z : Str} (h : PyData.strOk z = true) (lo hi : Option Int) : PyData.strOk (cutS z lo hi) = true := by
  rw [strOk_iff] at *
  intro c hc
  have e : (cutS z lo hi).cps.toList = (z.cps.toList.drop (HT.sIx z.length 0 lo)).take (HT.sIx z.length z.length hi - HT.sIx z.length 0 lo) := by
    unfold cutS
    simp
  rw [e] at hc
  exact h c (List.mem_of_mem_drop (List.mem_of_mem_take hc))
theorem cutS_len {z : Str} {j : Nat} (h : j ≤ z.length) : (cutS z none (some (j : Int))).length = j ∧ (cutS z (some (j : Int)) none).length = z.length - j := by
  have sz : z.cps.toList.length = z.length := Array.length_toList
  constructor
  · show ((z.cps.toList.drop (HT.sIx z.length 0 none)).take (HT.sIx z.length z.length (some (j : Int)) - HT.sIx z.length 0 none)).toArray.size = j
    rw [HT.sIx_none, HT.sIx_nat, List.size_toArray, List.length_take, List.length_drop, sz]
    omega
  · show ((z.cps.toList.drop (HT.sIx z.length 0 (some (j : Int)))).take (HT.sIx z.length z.length none - HT.sIx z.length 0 (some (j : Int)))).toArray.size = z.length - j
    rw [HT.sIx_none, HT.sIx_nat, List.size_toArray, List.length_take, List.length_drop, sz]
    omega
/-- a row, of either kind -/
theorem seq_of {K : PySem.W.Frag} {H : Hp} {v : V} {d : PyData} (dp : Dp K H v d) (h : (∃ ds, d = .tuple ds) ∨ ∃ ds, d = .list ds) : ∃ (a : Addr) (vs : List V) (ds : List PyData), v = .ref a ∧ (SqL K H a vs ∨ SqT K H a vs) ∧ DpAll K H vs ds ∧ (d = .tuple ds ∨ d = .list ds) := by
  rcases h with ⟨ds, rfl⟩ | ⟨ds, rfl⟩
  · cases dp with
    | tup s a => exact ⟨_, _, _, rfl, .inr s, a, .inl rfl⟩
  · cases dp with
    | lst s a => exact ⟨_, _, _, rfl, .inl s, a, .inr rfl⟩
theorem Bd.seq {n b : Nat} {d : PyData} {ds : List PyData} (h : Bd n b d) (e : d = .tuple ds ∨ d = .list ds) : ∃ m, n = m + 1 ∧ ds.length ≤ b ∧ ∀ x ∈ ds, Bd m b x := by
  rcases e with rfl | rfl
  · exact h.tup
  · exact h.lst
end Lt

set_option Elab.async false
set_option linter.all false
set_option maxRecDepth 100000
set_option maxHeartbeats 4000000
namespace Lt
open PySem PySem.Spec PyProof.Rows L2
def seqD : PyData → Bool
  | .tuple _ => true
  | .list _ => true
  | _ => false
def tupD : PyData → Bool
  | .tuple _ => true
  | _ => false
theorem kit_seq {K : PySem.W.Frag} {H : Hp} {v : V} {d : PyData} (dp : Dp K H v d) : PySem.W.kitAny K (.type (kindName d)) [.type "tuple", .type "list"] = some (seqD d) := by
  cases dp with
  | non => exact kit_no (show kitB "NoneType" "tuple" = some false by decide +kernel) (kit_no (show kitB "NoneType" "list" = some false by decide +kernel) rfl)
  | bl b => exact kit_no (show kitB "bool" "tuple" = some false by decide +kernel) (kit_no (show kitB "bool" "list" = some false by decide +kernel) rfl)
  | int i => exact kit_no (show kitB "int" "tuple" = some false by decide +kernel) (kit_no (show kitB "int" "list" = some false by decide +kernel) rfl)
  | str z => exact kit_no (show kitB "str" "tuple" = some false by decide +kernel) (kit_no (show kitB "str" "list" = some false by decide +kernel) rfl)
  | lst h a => exact kit_no (show kitB "list" "tuple" = some false by decide +kernel) (kit_yes (show kitB "list" "list" = some true by decide +kernel))
  | tup h a => exact kit_yes (show kitB "tuple" "tuple" = some true by decide +kernel)
theorem kit_tup {K : PySem.W.Frag} {H : Hp} {v : V} {d : PyData} (dp : Dp K H v d) : kitB (kindName d) "tuple" = some (tupD d) := by
  cases dp with
  | non => exact (show kitB "NoneType" "tuple" = some false by decide +kernel)
  | bl b => exact (show kitB "bool" "tuple" = some false by decide +kernel)
  | int i => exact (show kitB "int" "tuple" = some false by decide +kernel)
  | str z => exact (show kitB "str" "tuple" = some false by decide +kernel)
  | lst h a => exact (show kitB "list" "tuple" = some false by decide +kernel)
  | tup h a => exact (show kitB "tuple" "tuple" = some true by decide +kernel)
def strD : PyData → Bool
  | .str _ => true
  | _ => false
theorem kit_str {K : PySem.W.Frag} {H : Hp} {v : V} {d : PyData} (dp : Dp K H v d) : kitB (kindName d) "str" = some (strD d) := by
  cases dp with
  | non => exact (show kitB "NoneType" "str" = some false by decide +kernel)
  | bl b => exact (show kitB "bool" "str" = some false by decide +kernel)
  | int i => exact (show kitB "int" "str" = some false by decide +kernel)
  | str z => exact (show kitB "str" "str" = some true by decide +kernel)
  | lst h a => exact (show kitB "list" "str" = some false by decide +kernel)
  | tup h a => exact (show kitB "tuple" "str" = some false by decide +kernel)
theorem tup_of {K : PySem.W.Frag} {H : Hp} {v : V} {ds : List PyData} (dp : Dp K H v (.tuple ds)) : ∃ (a : Addr) (vs : List V), v = .ref a ∧ SqT K H a vs ∧ DpAll K H vs ds := by
  cases dp with
  | tup s a => exact ⟨_, _, rfl, s, a⟩
theorem lst_of {K : PySem.W.Frag} {H : Hp} {v : V} {ds : List PyData} (dp : Dp K H v (.list ds)) : ∃ (a : Addr) (vs : List V), v = .ref a ∧ SqL K H a vs ∧ DpAll K H vs ds := by
  cases dp with
  | lst s a => exact ⟨_, _, rfl, s, a⟩
abbrev spTxt : List Str := [" ", "z", "A", "|", "abcdefgh", ""]
theorem spTxt_ok : ∀ z ∈ spTxt, z.length ≤ 8 ∧ PyData.strOk z = true := by decide +kernel
theorem cls2 : Paired ClsV [V.ty "tuple", V.ty "list"] [Value.type "tuple", Value.type "list"] := .cons (.ty _) (.cons (.ty _) .nil)
section
variable {P : Program} {w : World} {K : PySem.W.Frag} {mg : Str → Option Value} {base : Heap} {X : Cx}
def spSpoilt (K : PySem.W.Frag) (n : Nat) : Sp := fun vs H Q _ => ∃ (T S : Addr) (ns : List Int) (v : V) (d : PyData) (A : List Addr) (m b : Nat), vs = [.ref T, v] ∧ Tape H T S ns ∧ T ∈ A ∧ Taken H A ∧ Dp K (cutH H A) v d ∧ Bd m b d ∧ m + 1 ≤ n ∧ b ≤ 900 ∧
  ∀ (v' : V) (d' : PyData) (H' : Hp), SameT T H H' → Tape H' T S ns → Dp K (cutH H' A) v' d' → Bd (m + 3) (b + 8) d' → Q v' H'
abbrev nSp : List Str := ["tape", "item", "k", "rest", "course", "at"]
theorem scSp : FnScope nSp ["tape", "item"] (defScope sSpoilt) := ⟨rfl, rfl, rfl, by decide +kernel, rfl, by decide +kernel, by decide +kernel⟩
theorem spoilt_step {f : Addr} {fd : FuncData} {n : Nat} (F : Fun K "_law_spoilt" "_law_spoilt" sSpoilt f fd) (B : Bi mg) (cD : Has P w K mg base 1 "_law_draw" ["tape", "many"] spDraw) (cWh : Has P w K mg base 1 "_law_whole" ["item"] (spWhole K)) (cAny : Has P w K mg base 4 "_law_any" ["tape", "deep"] (spAny K 3))
    (cI : Has P w K mg base (n + 4) "_law_spoilt" ["tape", "item"] (spSpoilt K n)) : FnOk P w K mg base CX0 (n + 5) f fd ["tape", "item"] (spSpoilt K (n + 1)) := by
  refine F.ok scSp (fun vs H Q E h => ?_) (fun cdv A outer s H vs Q E hr h => ?_)
  · obtain ⟨T, S, ns, v, d, A, m, b, rfl, _⟩ := h
    rfl
  obtain ⟨T, S, ns, v, d, AV, m, b, rfl, tp, hTA, tak, dp, bd, mn, b900, q⟩ := h
  have one : 1 ≤ n + 4 := by omega
  have four : 4 ≤ n + 4 := by omega
  have le : n + 4 ≤ n + 4 := Nat.le_refl _
  refine ⟨_, Evl.pss_cut (ps_if (PW.pt (pw_and (pt_val (pe_callB call_isiT (by rfl) B.isinstance (by decide +kernel) (pa_cons (pv 1) (pa_cons (pe_tup (pa_cons (pe_bltn (v := .ty "tuple") (by rfl) B.tuple (by decide +kernel) rfl) (pa_cons (pe_bltn (v := .ty "list") (by rfl) B.list (by decide +kernel) rfl) pa_nil))) pa_nil)))) (pw_and (pt_cmpR op_gt (pe_callB call_len_seq (by rfl) B.len PySem.boot_len (pa_cons (pv 1) pa_nil)) pe_int (nomark _)) (pw_and1 (pt_cmpR op_gt (pe_go cD hr one rfl (pa_cons (pv 0) (pa_cons pe_int pa_nil))) pe_int (nomark _)))))) (pss_cons (ps_set (i := 2) scSp.nd rfl (.inl rfl) (pe_go cD hr one rfl (pa_cons (pv 0) (pa_cons (pe_callB call_len_seq (by rfl) B.len PySem.boot_len (pa_cons (pv 1) pa_nil)) pa_nil)))) (pss_cons (ps_set (i := 3) scSp.nd rfl (.inl rfl) (pe_callTy call_list_of (by rfl) B.list (by decide +kernel) (pa_cons (pv 1) pa_nil))) (pss_cons (ps_set (i := 4) scSp.nd rfl (.inl rfl) (pe_go cD hr one rfl (pa_cons (pv 0) (pa_cons pe_int pa_nil)))) (Evl.pss_cut (ps_if (pt_cmpR op_lt (pv 4) pe_int (nomark _)) (pss_one (ps_asg (pe_go cI hr le rfl (pa_cons (pv 0) (pa_cons (pe_ix ix_list (pv 3) (pv 2) (fun _ _ => rfl)) pa_nil))) (pg_sub (pv 3) (pv 2) set_list))) (pss_one (ps_if (pt_cmpR op_eq (pv 4) pe_int (nomark _)) (pss_one (ps_expr (pe_bm PySem.F.plainAttrs_list PySem.F.slot_list_pop PySem.F.type_list_pop mt_popAt (pv 3) (pa_cons (pv 2) pa_nil)))) (pss_one (ps_if (pt_cmpR op_eq (pv 4) pe_int (nomark _)) (pss_one (ps_expr (pe_bm PySem.F.plainAttrs_list PySem.F.slot_list_insert PySem.F.type_list_insert mt_insert (pv 3) (pa_cons (pv 2) (pa_cons (pe_ix ix_list (pv 3) (pe_go cD hr one rfl (pa_cons (pv 0) (pa_cons (pe_callB call_len_seq (by rfl) B.len PySem.boot_len (pa_cons (pv 3) pa_nil)) pa_nil))) (fun _ _ => rfl)) pa_nil))))) (pss_one (ps_if (pt_cmpR op_eq (pv 4) pe_int (nomark _)) (pss_one (ps_set (i := 3) scSp.nd rfl (.inl rfl) (pe_revL (pv 3)))) (pss_one (ps_expr (pe_bm PySem.F.plainAttrs_list PySem.F.slot_list_insert PySem.F.type_list_insert mt_insert (pv 3) (pa_cons (pv 2) (pa_cons (pe_go cAny hr four rfl (pa_cons (pv 0) (pa_cons pe_int pa_nil))) pa_nil)))))))))))) (pss_one (ps_ret (pe_ifExp (pt_val (pe_callB call_isi (by rfl) B.isinstance (by decide +kernel) (pa_cons (pv 1) (pa_cons (pe_bltn (v := .ty "tuple") (by rfl) B.tuple (by decide +kernel) rfl) pa_nil)))) (pe_callTy call_tupleZ (by rfl) B.tuple (by decide +kernel) (pa_cons (pv 3) pa_nil)) (pv 3)))))))) pss_nil)
    (Evl.pss_cut (ps_if (PW.pt (pw_and (pt_val (pe_go cWh hr one rfl (pa_cons (pv 1) pa_nil))) (pw_and1 (pt_cmpR op_gt (pe_go cD hr one rfl (pa_cons (pv 0) (pa_cons pe_int pa_nil))) pe_int (nomark _))))) (pss_one (ps_ret (pe_op op_add (pv 1) (pe_ix ix_list (pe_lst (pa_cons pe_int (pa_cons (pe_un un_neg pe_int) (pa_cons pe_int (pa_cons (pe_un un_neg pe_int) (pa_cons pe_int (pa_cons pe_int pa_nil))))))) (pe_go cD hr one rfl (pa_cons (pv 0) (pa_cons pe_int pa_nil))) (fun _ _ => rfl))))) pss_nil)
    (Evl.pss_cut (ps_if (PW.pt (pw_and (pt_val (pe_callB call_isi (by rfl) B.isinstance (by decide +kernel) (pa_cons (pv 1) (pa_cons (pe_bltn (v := .ty "str") (by rfl) B.str (by decide +kernel) rfl) pa_nil)))) (pw_and1 (pt_cmpR op_gt (pe_go cD hr one rfl (pa_cons (pv 0) (pa_cons pe_int pa_nil))) pe_int (nomark _))))) (pss_cons (ps_set (i := 5) scSp.nd rfl (.inl rfl) (pe_go cD hr one rfl (pa_cons (pv 0) (pa_cons (pe_op op_add (pe_callB call_len_str (by rfl) B.len PySem.boot_len (pa_cons (pv 1) pa_nil)) pe_int) pa_nil)))) (pss_one (ps_ret (pe_op op_add_str (pe_op op_add_str (pe_slice sl_str (pv 1) po_none (po_some (pv 5))) (pe_ix ix_list (pe_lst (pa_cons pe_str (pa_cons pe_str (pa_cons pe_str (pa_cons pe_str (pa_cons pe_str (pa_cons pe_str pa_nil))))))) (pe_go cD hr one rfl (pa_cons (pv 0) (pa_cons pe_int pa_nil))) (fun _ _ => rfl))) (pe_slice sl_str (pv 1) (po_some (pv 5)) po_none))))) pss_nil)
    (Evl.pss_cut (ps_if (PW.pt (pw_and (pt_val (pe_callB call_isiT (by rfl) B.isinstance (by decide +kernel) (pa_cons (pv 1) (pa_cons (pe_tup (pa_cons (pe_bltn (v := .ty "tuple") (by rfl) B.tuple (by decide +kernel) rfl) (pa_cons (pe_bltn (v := .ty "list") (by rfl) B.list (by decide +kernel) rfl) pa_nil))) pa_nil)))) (pw_and1 (pt_cmpR op_eq (pe_go cD hr one rfl (pa_cons (pv 0) (pa_cons pe_int pa_nil))) pe_int (nomark _))))) (pss_one (ps_ret (pe_ifExp (pt_val (pe_callB call_isi (by rfl) B.isinstance (by decide +kernel) (pa_cons (pv 1) (pa_cons (pe_bltn (v := .ty "tuple") (by rfl) B.tuple (by decide +kernel) rfl) pa_nil)))) (pe_callTy call_list_of (by rfl) B.list (by decide +kernel) (pa_cons (pv 1) pa_nil)) (pe_callTy call_tupleZ (by rfl) B.tuple (by decide +kernel) (pa_cons (pv 1) pa_nil))))) pss_nil)
    (pss_one (ps_ret (pe_go cAny hr four rfl (pa_cons (pv 0) (pa_cons pe_int pa_nil)))))))), ?_⟩
  have sub : ∀ {H' : Hp}, SameT T H H' → Dp K H' v d := fun s => dp_same ((cutH_sameT hTA s).trans (cutH_sub _ _)) dp
  have fin : ∀ (v' : V) (d' : PyData) (H' : Hp), SameT T H H' → Tape H' T S ns → Dp K (cutH H' AV) v' d' → Bd (m + 3) (b + 8) d' → Q v' H' := q
  have kinds : seqD d = true → (∃ ds, d = .tuple ds) ∨ ∃ ds, d = .list ds := fun h => by
    cases d with
    | tuple ds => exact .inl ⟨ds, rfl⟩
    | list ds => exact .inr ⟨ds, rfl⟩
    | _ => cases h
  refine ⟨fun σ H' => σ = [some (.ref T), some v, none, none, none, none] ∧ SameT T H H' ∧ Tape H' T S ns, ?_, ?_⟩
  · refine ⟨_, rfl, (by show 2 ≤ sizeLine; decide), fun tc htc => ?_⟩
    have sc := same_new htc (.tup [.ty "tuple", .ty "list"])
    have sm1 : SameT T H (upd H tc (.tup [.ty "tuple", .ty "list"])) := SameT.of sc
    have tp1 := tp.same sc
    have dp1 := sub sm1
    refine ⟨v, tc, _, _, _, _, rfl, upd_same, cls2, ty_dp dp1, kit_seq dp1, _, rfl, ?_⟩
    generalize upd H tc (.tup [.ty "tuple", .ty "list"]) = H1 at sm1 tp1 dp1 ⊢
    cases sd : seqD d with
    | false => exact iteF ⟨rfl, sm1, tp1⟩
    | true =>
      refine iteT ?_
      obtain ⟨a, vs, ds, rfl, sq, da, ed⟩ := seq_of dp (kinds sd)
      obtain ⟨m', rfl, lb, bds⟩ := bd.seq ed
      have ld := dpAll_len da
      have sqT : ∀ {H' : Hp}, SameT T H H' → SqL K H' a vs ∨ SqT K H' a vs := fun {H'} s => by
        have z := (cutH_sameT hTA s).trans (cutH_sub H' AV)
        exact sq.elim (fun h => .inl (z.seq h)) fun h => .inr (same_tup z h)
      refine ⟨_, rfl, a, _, rfl, sqT sm1, _, _, rfl, rfl, _, rfl, ite2 (fun g => ?_) (fun _ => ⟨rfl, sm1, tp1⟩)⟩
      have l0 : 0 < vs.length := by
        have z := of_decide_eq_true g
        omega
      refine ⟨_, rfl, T, S, ns, 7, rfl, tp1, by decide, by decide, fun r i2 c2 _ _ => ?_⟩
      have sm2 := sm1.trans (sameT_put (T := T) (H := H1) (.lst [.ref S, .int i2, .int c2]))
      have tp2 := tp1.put i2 c2
      generalize upd H1 T (.lst [.ref S, .int i2, .int c2]) = H2 at sm2 tp2 ⊢
      refine ⟨_, _, rfl, rfl, _, rfl, ite2 (fun _ => ?_) (fun _ => ⟨rfl, sm2, tp2⟩)⟩
      -- k, rest, course
      refine ⟨_, rfl, _, rfl, a, _, rfl, sqT sm2, T, S, ns, _, rfl, tp2, by omega, by omega, fun k i3 c3 k0 k1 => ?_⟩
      have sm3 := sm2.trans (sameT_put (T := T) (H := H2) (.lst [.ref S, .int i3, .int c3]))
      have tp3 := tp2.put i3 c3
      generalize upd H2 T (.lst [.ref S, .int i3, .int c3]) = H3 at sm3 tp3 ⊢
      refine ⟨_, rfl, a, _, rfl, sqT sm3, fun R hR => ?_⟩
      have nRT : R ≠ T := by
        obtain ⟨o, ho⟩ := tp3.taken
        exact new_ne ho hR
      have hR0 : H R = none := sm3.free nRT hR
      have nRA : R ∉ AV := tak.new hR0
      have sm4 := sm3.trans (SameT.of (same_new hR (.lst vs)))
      have tp4 := tp3.same (same_new hR (.lst vs))
      have hR4 : upd H3 R (.lst vs) R = some (.lst vs) := upd_same
      generalize upd H3 R (.lst vs) = H4 at sm4 tp4 hR4 ⊢
      refine ⟨_, rfl, T, S, ns, 12, rfl, tp4, by decide, by decide, fun c i5 c5 c0 c12 => ?_⟩
      have sm5 := sm4.trans (sameT_put (T := T) (H := H4) (.lst [.ref S, .int i5, .int c5]))
      have tp5 := tp4.put i5 c5
      have hR5 : upd H4 T (.lst [.ref S, .int i5, .int c5]) R = some (.lst vs) := by
        rw [upd_ne nRT]
        exact hR4
      generalize upd H4 T (.lst [.ref S, .int i5, .int c5]) = H5 at sm5 tp5 hR5 ⊢
      have da5 := dpAll_same (cutH_fresh hTA sm5 hR0) da
      obtain ⟨j, rfl⟩ : ∃ j : Nat, k = (j : Int) := ⟨k.toNat, by omega⟩
      have hj : j < vs.length := by omega
      have tkR : ∀ {H' : Hp} {xs : List V}, SameT T H H' → Tape H' T S ns → H' R = some (.lst xs) → Taken H' (R :: AV) := fun s t h => (tak.sameT s t.tak).cons (by rw [h]; exact fun z => nomatch z)
      have put : ∀ {H' : Hp} {xs : List V} {o : HO}, SameT T H H' → Tape H' T S ns → H' R = some (.lst xs) → SameT T H (upd H' R o) ∧ Tape (upd H' R o) T S ns := fun {H' xs o} s t h => by
        refine ⟨fun b' u nb hb => ?_, ?_⟩
        · rw [upd_ne (ne_of_none hb hR0)]
          exact s b' u nb hb
        · obtain ⟨x1, x2, hT⟩ := t.at_
          refine ⟨⟨x1, x2, by rw [upd_ne nRT.symm]; exact hT⟩, ?_⟩
          rw [upd_ne (ne_of_none tp.scr hR0)]
          exact t.scr
      have up : ∀ {x : PyData}, Bd m' b x → Bd (m' + 3) (b + 8) x := fun h => h.mono (by omega) (by omega)
      refine ⟨fun σ H' => ∃ (R' : Addr) (vs' : List V) (ds' : List PyData), σ = [some (.ref T), some (.ref a), some (natV j), some (.ref R'), some (.int c), none] ∧ SameT T H H' ∧ Tape H' T S ns ∧ H' R' = some (.lst vs') ∧ R' ∉ AV ∧ DpAll K (cutH H' (R' :: AV)) vs' ds' ∧ ds'.length ≤ b + 8 ∧ ∀ x ∈ ds', Bd (m' + 3) (b + 8) x, ?_, ?_⟩
      · refine ⟨_, rfl, _, _, rfl, rfl, _, rfl, ite2 (fun _ => ?_) (fun _ => ?_)⟩
        · -- one thing otherwise
          have ex : vs[j]? = some vs[j] := List.getElem?_eq_getElem hj
          obtain ⟨dx, edx, dpx⟩ := dpAll_get da5 ex
          have mx := bds dx (List.mem_of_getElem? edx)
          refine ⟨_, rfl, _, rfl, _, rfl, R, _, _, vs[j], rfl, rfl, sql hR5, at_of rfl ex, T, S, ns, vs[j], dx, R :: AV, m', b, rfl, tp5, List.mem_cons_of_mem _ hTA, tkR sm5 tp5 hR5, dpx, mx, by omega, b900, fun v' d' H6 sm6 tp6 dv bv => ?_⟩
          have hR6 := sm6 _ _ nRT hR5
          have smH6 := sm5.trans sm6
          obtain ⟨p1, p2⟩ := put (o := .lst (vs.set j v')) smH6 tp6 hR6
          refine ⟨_, rfl, _, rfl, R, _, _, j, rfl, rfl, hR6, ?_, R, vs.set j v', ds.set j d', rfl, p1, p2, upd_same, nRA, ?_, ?_, ?_⟩
          · unfold ixN
            rw [if_pos (by omega), if_pos (by omega), Int.toNat_natCast]
          · rw [cutH_put List.mem_cons_self]
            exact dpAll_set (dpAll_same (cutH_sameT (List.mem_cons_of_mem _ hTA) sm6) da5) dv j
          · rw [List.length_set]
            omega
          · intro x hx
            rcases List.mem_or_eq_of_mem_set hx with hx | hx
            · exact up (bds x hx)
            · rw [hx]
              exact bv
        refine ⟨_, rfl, rfl, _, rfl, ite2 (fun _ => ?_) (fun _ => ?_)⟩
        · -- one fewer
          obtain ⟨p1, p2⟩ := put (o := .lst (vs.eraseIdx j)) sm5 tp5 hR5
          refine ⟨_, rfl, .inl ⟨rfl, _, sql hR5⟩, _, rfl, R, _, _, j, vs[j], rfl, rfl, hR5, by omega, by omega, ?_, List.getElem?_eq_getElem hj, R, vs.eraseIdx j, ds.eraseIdx j, rfl, p1, p2, upd_same, nRA, ?_, ?_, ?_⟩
          · exact (ixN_seq (Evl.ixN_nat hj)).1
          · rw [cutH_put List.mem_cons_self]
            exact dpAll_erase da5 j
          · have z := List.length_eraseIdx_le ds j
            omega
          · exact fun x hx => up (bds x (List.mem_of_mem_eraseIdx hx))
        refine ⟨_, rfl, rfl, _, rfl, ite2 (fun _ => ?_) (fun _ => ?_)⟩
        · -- one of them once more
          refine ⟨_, rfl, .inl ⟨rfl, _, sql hR5⟩, _, rfl, _, rfl, _, rfl, _, rfl, R, _, rfl, .inl (sql hR5), T, S, ns, _, rfl, tp5, by omega, by omega, fun r i6 c6 r0 r1 => ?_⟩
          have sm6 := sm5.trans (sameT_put (T := T) (H := H5) (.lst [.ref S, .int i6, .int c6]))
          have tp6 := tp5.put i6 c6
          have hR6 : upd H5 T (.lst [.ref S, .int i6, .int c6]) R = some (.lst vs) := by
            rw [upd_ne nRT]
            exact hR5
          have da6 := dpAll_same (cutH_fresh hTA sm6 hR0) da
          generalize upd H5 T (.lst [.ref S, .int i6, .int c6]) = H6 at sm6 tp6 hR6 da6 ⊢
          obtain ⟨y, rfl⟩ : ∃ y : Nat, r = (y : Int) := ⟨r.toNat, by omega⟩
          have hy : y < vs.length := by omega
          have ey : vs[y]? = some vs[y] := List.getElem?_eq_getElem hy
          obtain ⟨dy, edy, dpy⟩ := dpAll_get da6 ey
          obtain ⟨p1, p2⟩ := put (o := .lst (vs.take j ++ [vs[y]] ++ vs.drop j)) sm6 tp6 hR6
          refine ⟨R, _, _, vs[y], rfl, rfl, sql hR6, at_of rfl ey, R, _, _, vs[y], rfl, rfl, hR6, small1000 (by omega), by omega, by omega, R, vs.take j ++ [vs[y]] ++ vs.drop j, ds.take j ++ [dy] ++ ds.drop j, rfl, ?_, ?_, ?_, nRA, ?_, ?_, ?_⟩
          · rw [Int.toNat_natCast]
            exact p1
          · rw [Int.toNat_natCast]
            exact p2
          · rw [Int.toNat_natCast]
            exact upd_same
          · rw [cutH_put List.mem_cons_self]
            exact dpAll_append (dpAll_snoc (dpAll_take da6 j) dpy) (dpAll_drop da6 j)
          · rw [List.length_append, List.length_append, List.length_take, List.length_drop]
            show _ + 1 + _ ≤ _
            omega
          · intro x hx
            rcases List.mem_append.mp hx with hx | hx
            · rcases List.mem_append.mp hx with hx | hx
              · exact up (bds x (List.mem_of_mem_take hx))
              · rw [List.mem_singleton.mp hx]
                exact up (bds dy (List.mem_of_getElem? edy))
            · exact up (bds x (List.mem_of_mem_drop hx))
        refine ⟨_, rfl, rfl, _, rfl, ite2 (fun _ => ?_) (fun _ => ?_)⟩
        · -- backward
          refine ⟨_, rfl, R, _, rfl, sql hR5, fun R2 hR2 => ?_⟩
          have s6 := same_new hR2 (.lst vs.reverse)
          have nR2T : R2 ≠ T := by
            obtain ⟨o, ho⟩ := tp5.taken
            exact new_ne ho hR2
          have hR20 : H R2 = none := sm5.free nR2T hR2
          have sm6 := sm5.trans (SameT.of s6)
          refine ⟨R2, vs.reverse, ds.reverse, rfl, sm6, tp5.same s6, upd_same, tak.new hR20, ?_, ?_, ?_⟩
          · exact dpAll_rev (dpAll_same (cutH_fresh hTA sm6 hR20) da)
          · rw [List.length_reverse]
            omega
          · exact fun x hx => up (bds x (List.mem_reverse.mp hx))
        · -- anything among them
          refine ⟨_, rfl, .inl ⟨rfl, _, sql hR5⟩, _, rfl, _, rfl, T, S, ns, 1, R :: AV, rfl, tp5, List.mem_cons_of_mem _ hTA, tkR sm5 tp5 hR5, by decide, by decide, fun v' d' H6 sm6 tp6 dv bv => ?_⟩
          have hR6 := sm6 _ _ nRT hR5
          have smH6 := sm5.trans sm6
          have da6 := dpAll_same (cutH_sameT (List.mem_cons_of_mem _ hTA) sm6) da5
          obtain ⟨p1, p2⟩ := put (o := .lst (vs.take j ++ [v'] ++ vs.drop j)) smH6 tp6 hR6
          refine ⟨R, _, _, v', rfl, rfl, hR6, small1000 (by omega), by omega, by omega, R, vs.take j ++ [v'] ++ vs.drop j, ds.take j ++ [d'] ++ ds.drop j, rfl, ?_, ?_, ?_, nRA, ?_, ?_, ?_⟩
          · rw [Int.toNat_natCast]
            exact p1
          · rw [Int.toNat_natCast]
            exact p2
          · rw [Int.toNat_natCast]
            exact upd_same
          · rw [cutH_put List.mem_cons_self]
            exact dpAll_append (dpAll_snoc (dpAll_take da6 j) dv) (dpAll_drop da6 j)
          · rw [List.length_append, List.length_append, List.length_take, List.length_drop]
            show _ + 1 + _ ≤ _
            omega
          · intro x hx
            rcases List.mem_append.mp hx with hx | hx
            · rcases List.mem_append.mp hx with hx | hx
              · exact up (bds x (List.mem_of_mem_take hx))
              · rw [List.mem_singleton.mp hx]
                exact bv.mono (by omega) (by omega)
            · exact up (bds x (List.mem_of_mem_drop hx))
      · rintro σ H6 ⟨R', vs', ds', rfl, sm6, tp6, hR6, nR, da6, ld6, bd6⟩
        have dp6 := sub sm6
        refine ⟨_, rfl, _, _, _, _, tupD d, rfl, .ty _, ty_dp dp6, kit_ty (kit_tup dp6), _, rfl, ?_⟩
        have less := cutH_less (H := H6) (A := AV) (B := R' :: AV) fun b hb => List.mem_cons_of_mem _ hb
        cases td : tupD d with
        | true =>
          refine iteT ⟨_, rfl, R', _, rfl, sql hR6, fun t u ht hu => ?_⟩
          have s7 := same_new ht u
          have nt := (tak.sameT sm6 tp6.tak).new ht
          exact fin _ (.tuple ds') _ (sm6.trans (SameT.of s7)) (tp6.same s7) (.tup (TpO.sqt ⟨u, by rw [cutH_out nt, upd_same], hu⟩) (dpAll_same (less.trans (cutH_same s7)) da6)) ⟨ld6, bd6⟩
        | false => exact iteF ⟨_, rfl, fin _ (.list ds') _ sm6 tp6 (.lst (sql (by rw [cutH_out nR]; exact hR6)) (dpAll_same less da6)) ⟨ld6, bd6⟩⟩
  rintro σ H1 ⟨rfl, sm1, tp1⟩
  refine ⟨fun σ H' => σ = [some (.ref T), some v, none, none, none, none] ∧ SameT T H H' ∧ Tape H' T S ns, ?_, ?_⟩
  · refine ⟨_, rfl, v, d, rfl, sub sm1, _, rfl, ?_⟩
    cases wd : wholeD d with
    | false => exact iteF ⟨rfl, sm1, tp1⟩
    | true =>
      refine iteT ⟨_, rfl, T, S, ns, 6, rfl, tp1, by decide, by decide, fun r i2 c2 _ _ => ?_⟩
      have sm2 := sm1.trans (sameT_put (T := T) (H := H1) (.lst [.ref S, .int i2, .int c2]))
      have tp2 := tp1.put i2 c2
      generalize upd H1 T (.lst [.ref S, .int i2, .int c2]) = H2 at sm2 tp2 ⊢
      refine ⟨_, _, rfl, rfl, _, rfl, ite2 (fun _ => ?_) (fun _ => ⟨rfl, sm2, tp2⟩)⟩
      obtain ⟨i, rfl⟩ : ∃ i, v = .int i := by
        cases dp with
        | int i => exact ⟨i, rfl⟩
        | _ => cases wd
      refine ⟨_, rfl, _, rfl, _, rfl, (by show 6 ≤ sizeLine; decide), fun L hL => ?_⟩
      have s3 := same_new hL (.lst [.int 1, .int (-1), .int 2, .int (-2), .int 9, .int 1000])
      have sm3 := sm2.trans (SameT.of s3)
      have tp3 := tp2.same s3
      have hL3 : upd H2 L (.lst [.int 1, .int (-1), .int 2, .int (-2), .int 9, .int 1000]) L = some (.lst [.int 1, .int (-1), .int 2, .int (-2), .int 9, .int 1000]) := upd_same
      have nLT : L ≠ T := by
        obtain ⟨o, ho⟩ := tp2.taken
        exact new_ne ho hL
      generalize upd H2 L (.lst [.int 1, .int (-1), .int 2, .int (-2), .int 9, .int 1000]) = H3 at sm3 tp3 hL3 ⊢
      refine ⟨_, rfl, T, S, ns, 6, rfl, tp3, by decide, by decide, fun r i4 c4 r0 r6 => ?_⟩
      have sm4 := sm3.trans (sameT_put (T := T) (H := H3) (.lst [.ref S, .int i4, .int c4]))
      have tp4 := tp3.put i4 c4
      have hL4 : upd H3 T (.lst [.ref S, .int i4, .int c4]) L = some (.lst [.int 1, .int (-1), .int 2, .int (-2), .int 9, .int 1000]) := by
        rw [upd_ne nLT]
        exact hL3
      generalize upd H3 T (.lst [.ref S, .int i4, .int c4]) = H4 at sm4 tp4 hL4 ⊢
      obtain ⟨k, ek⟩ : ∃ k : Int, atI [V.int 1, .int (-1), .int 2, .int (-2), .int 9, .int 1000] r = some (.int k) := by
        have z : r = 0 ∨ r = 1 ∨ r = 2 ∨ r = 3 ∨ r = 4 ∨ r = 5 := by omega
        rcases z with rfl | rfl | rfl | rfl | rfl | rfl <;> exact ⟨_, rfl⟩
      exact ⟨L, _, _, .int k, rfl, rfl, sql hL4, ek, i, k, rfl, rfl, fin _ (.int (i + k)) _ sm4 tp4 (.int _) (Bd.int _ _ _)⟩
  rintro σ H1 ⟨rfl, sm1, tp1⟩
  refine ⟨fun σ H' => σ = [some (.ref T), some v, none, none, none, none] ∧ SameT T H H' ∧ Tape H' T S ns, ?_, ?_⟩
  · refine ⟨_, rfl, _, _, _, _, strD d, rfl, .ty _, ty_dp (sub sm1), kit_ty (kit_str (sub sm1)), _, rfl, ?_⟩
    cases sd : strD d with
    | false => exact iteF ⟨rfl, sm1, tp1⟩
    | true =>
      refine iteT ⟨_, rfl, T, S, ns, 3, rfl, tp1, by decide, by decide, fun r i2 c2 _ _ => ?_⟩
      have sm2 := sm1.trans (sameT_put (T := T) (H := H1) (.lst [.ref S, .int i2, .int c2]))
      have tp2 := tp1.put i2 c2
      generalize upd H1 T (.lst [.ref S, .int i2, .int c2]) = H2 at sm2 tp2 ⊢
      refine ⟨_, _, rfl, rfl, _, rfl, ite2 (fun _ => ?_) (fun _ => ⟨rfl, sm2, tp2⟩)⟩
      obtain ⟨z, rfl, rfl⟩ : ∃ z, v = .str z ∧ d = .str z := by
        cases dp with
        | str z => exact ⟨z, rfl, rfl⟩
        | _ => cases sd
      obtain ⟨lz, oz⟩ := bd.txt
      have lin : ∀ {k : Nat}, k ≤ 1000 → k ≤ sizeLine := fun h => Nat.le_of_lt (small1000 h)
      refine ⟨_, rfl, _, rfl, z, rfl, lin (by omega), _, _, rfl, rfl, T, S, ns, _, rfl, tp2, by omega, by omega, fun k i3 c3 k0 k1 => ?_⟩
      have sm3 := sm2.trans (sameT_put (T := T) (H := H2) (.lst [.ref S, .int i3, .int c3]))
      have tp3 := tp2.put i3 c3
      generalize upd H2 T (.lst [.ref S, .int i3, .int c3]) = H3 at sm3 tp3 ⊢
      obtain ⟨j, rfl⟩ : ∃ j : Nat, k = (j : Int) := ⟨k.toNat, by omega⟩
      have hj : j ≤ z.length := by omega
      obtain ⟨l1, l2⟩ := cutS_len hj
      refine ⟨_, rfl, _, rfl, _, rfl, z, rfl, lin (by omega), (by show 6 ≤ sizeLine; decide), fun L hL => ?_⟩
      have s4 := same_new hL (.lst [.str " ", .str "z", .str "A", .str "|", .str "abcdefgh", .str ""])
      have sm4 := sm3.trans (SameT.of s4)
      have tp4 := tp3.same s4
      have hL4 : upd H3 L (.lst [.str " ", .str "z", .str "A", .str "|", .str "abcdefgh", .str ""]) L = some (.lst (spTxt.map V.str)) := upd_same
      have nLT : L ≠ T := by
        obtain ⟨o, ho⟩ := tp3.taken
        exact new_ne ho hL
      generalize upd H3 L (.lst [.str " ", .str "z", .str "A", .str "|", .str "abcdefgh", .str ""]) = H4 at sm4 tp4 hL4 ⊢
      refine ⟨_, rfl, T, S, ns, 6, rfl, tp4, by decide, by decide, fun r i5 c5 r0 r6 => ?_⟩
      have sm5 := sm4.trans (sameT_put (T := T) (H := H4) (.lst [.ref S, .int i5, .int c5]))
      have tp5 := tp4.put i5 c5
      have hL5 : upd H4 T (.lst [.ref S, .int i5, .int c5]) L = some (.lst (spTxt.map V.str)) := by
        rw [upd_ne nLT]
        exact hL4
      generalize upd H4 T (.lst [.ref S, .int i5, .int c5]) = H5 at sm5 tp5 hL5 ⊢
      obtain ⟨k, rfl⟩ : ∃ k : Nat, r = (k : Int) := ⟨r.toNat, by omega⟩
      have hk : k < spTxt.length := by
        show k < 6
        omega
      have ez : spTxt[k]? = some spTxt[k] := List.getElem?_eq_getElem hk
      obtain ⟨ly, oy⟩ := spTxt_ok _ (List.getElem_mem hk)
      generalize spTxt[k] = y at ez ly oy
      have la := len_app (cutS z none (some (j : Int))) y
      have lb := len_app (cutS z none (some (j : Int)) ++ y) (cutS z (some (j : Int)) none)
      refine ⟨L, _, _, .str y, rfl, rfl, sql hL5, at_of rfl (by rw [List.getElem?_map, ez]; rfl), _, _, rfl, rfl, lin (by omega), _, rfl, _, rfl, _, rfl, z, rfl, lin (by omega), _, _, rfl, rfl, lin (by omega), ?_⟩
      exact fin _ (.str (cutS z none (some (j : Int)) ++ y ++ cutS z (some (j : Int)) none)) _ sm5 tp5 (.str _) (Bd.str (by omega) (strOk_app (strOk_app (cutS_ok oz _ _) oy) (cutS_ok oz _ _)))
  rintro σ H1 ⟨rfl, sm1, tp1⟩
  refine ⟨fun σ H' => σ = [some (.ref T), some v, none, none, none, none] ∧ SameT T H H' ∧ Tape H' T S ns, ?_, ?_⟩
  · refine ⟨_, rfl, (by show 2 ≤ sizeLine; decide), fun tc htc => ?_⟩
    have sc := same_new htc (.tup [.ty "tuple", .ty "list"])
    have sm2 := sm1.trans (SameT.of sc)
    have tp2 := tp1.same sc
    have dp2 := sub sm2
    refine ⟨v, tc, _, _, _, _, rfl, upd_same, cls2, ty_dp dp2, kit_seq dp2, _, rfl, ?_⟩
    generalize upd H1 tc (.tup [.ty "tuple", .ty "list"]) = H2 at sm2 tp2 dp2 ⊢
    cases sd : seqD d with
    | false => exact iteF ⟨rfl, sm2, tp2⟩
    | true =>
      refine iteT ⟨_, rfl, T, S, ns, 2, rfl, tp2, by decide, by decide, fun r i3 c3 _ _ => ?_⟩
      have sm3 := sm2.trans (sameT_put (T := T) (H := H2) (.lst [.ref S, .int i3, .int c3]))
      have tp3 := tp2.put i3 c3
      generalize upd H2 T (.lst [.ref S, .int i3, .int c3]) = H3 at sm3 tp3 ⊢
      refine ⟨rfl, _, rfl, ite2 (fun _ => ?_) (fun _ => ⟨rfl, sm3, tp3⟩)⟩
      have dp3 := sub sm3
      have tak3 := tak.sameT sm3 tp3.tak
      have z3 := (cutH_sameT hTA sm3).trans (cutH_sub H3 AV)
      refine ⟨_, rfl, _, _, _, _, tupD d, rfl, .ty _, ty_dp dp3, kit_ty (kit_tup dp3), _, rfl, ?_⟩
      rcases kinds sd with ⟨ds, rfl⟩ | ⟨ds, rfl⟩
      · obtain ⟨a, vs, rfl, sq, da⟩ := tup_of dp
        obtain ⟨m', rfl, lb, bds⟩ := bd.tup
        have da3 := dpAll_same (cutH_sameT hTA sm3) da
        refine iteT ⟨_, rfl, a, _, rfl, .inr (same_tup z3 sq), fun R hR => ?_⟩
        have s4 := same_new hR (.lst vs)
        exact fin _ (.list ds) _ (sm3.trans (SameT.of s4)) (tp3.same s4) (.lst (sql (by rw [cutH_out (tak3.new hR)]; exact upd_same)) (dpAll_same (cutH_same s4) da3)) ⟨by omega, fun x hx => (bds x hx).mono (by omega) (by omega)⟩
      · obtain ⟨a, vs, rfl, sq, da⟩ := lst_of dp
        obtain ⟨m', rfl, lb, bds⟩ := bd.lst
        have da3 := dpAll_same (cutH_sameT hTA sm3) da
        refine iteF ⟨_, rfl, a, _, rfl, z3.seq sq, fun t u ht hu => ?_⟩
        have s4 := same_new ht u
        exact fin _ (.tuple ds) _ (sm3.trans (SameT.of s4)) (tp3.same s4) (.tup (TpO.sqt ⟨u, by rw [cutH_out (tak3.new ht), upd_same], hu⟩) (dpAll_same (cutH_same s4) da3)) ⟨by omega, fun x hx => (bds x hx).mono (by omega) (by omega)⟩
  rintro σ H1 ⟨rfl, sm1, tp1⟩
  exact ⟨_, rfl, T, S, ns, 2, AV, rfl, tp1, hTA, tak.sameT sm1 tp1.tak, by decide, by decide, fun v' d' H2 sm2 tp2 dv bv => fin v' d' H2 (sm1.trans sm2) tp2 dv (bv.mono (by omega) (by omega))⟩
theorem spoilt_all {f : Addr} {fd : FuncData} (F : Fun K "_law_spoilt" "_law_spoilt" sSpoilt f fd) (B : Bi mg) (cD : Has P w K mg base 1 "_law_draw" ["tape", "many"] spDraw) (cWh : Has P w K mg base 1 "_law_whole" ["item"] (spWhole K)) (cAny : Has P w K mg base 4 "_law_any" ["tape", "deep"] (spAny K 3))
    (m : mg "_law_spoilt" = some (.ref f)) (b : Binds K fd ["tape", "item"] []) : ∀ n : Nat, FnOk P w K mg base CX0 (n + 4) f fd ["tape", "item"] (spSpoilt K n)
  | 0 => by
    have no : ∀ vs H Q E, ¬ spSpoilt K 0 vs H Q E := fun vs H Q E h => by
      obtain ⟨_, _, _, _, _, _, _, _, _, _, _, _, _, _, h, _⟩ := h
      omega
    exact ⟨fun vs H Q E h => absurd h (no vs H Q E), fun A outer s H args us vs Q E _ _ _ _ h => absurd h (no vs H Q E)⟩
  | n + 1 => spoilt_step F B cD cWh cAny ⟨f, fd, spoilt_all F B cD cWh cAny m b n, m, F.kp, b⟩
end
end Lt

set_option Elab.async false
set_option linter.all false
set_option maxRecDepth 100000
set_option maxHeartbeats 4000000
/-! t[::-1], t a tuple. -/
namespace Lt
open PySem PySem.Spec PyProof.Rows L2
theorem back_adjust (n : Nat) : Builtin.Slice.sliceAdjust none none (-1) (n : Int) = ((n : Int) - 1, -1) := by
  unfold Builtin.Slice.sliceAdjust
  simp
theorem back_places (n : Nat) : Builtin.Slice.slicePlaces ((n : Int) - 1) (-1) (-1) = n := by
  unfold Builtin.Slice.slicePlaces
  simp
  by_cases c : (-1 : Int) < (n : Int) - 1
  · rw [if_pos c]
    omega
  · rw [if_neg c]
    omega
theorem fm_congr {f g : Nat → Option Value} : ∀ l : List Nat, (∀ x ∈ l, f x = g x) → l.filterMap f = l.filterMap g
  | [], _ => rfl
  | x :: r, h => by rw [List.filterMap_cons, List.filterMap_cons, h x List.mem_cons_self, fm_congr r fun y hy => h y (List.mem_cons_of_mem _ hy)]
theorem back_pick (xs : Array Value) : ((List.range xs.size).filterMap fun m : Nat => xs[(((xs.size : Nat) : Int) - 1 + (m : Int) * -1).toNat]?) = xs.toList.reverse := by
  have e := PySem.W.krv_all xs
  have e2 := congrArg List.reverse e
  rw [← List.filterMap_reverse, ← PySem.W.krv_range, List.filterMap_map] at e2
  rw [← e2]
  refine fm_congr _ fun m hm => ?_
  have hm := List.mem_range.mp hm
  show xs[_]? = xs[xs.size - 1 - m]?
  congr 1
  omega
section
variable {prog : Program} {w : World} {A : Around} {E : Value → Shared → Prop} {s : Shared}
theorem back_parts {sl : Addr} {vs : Value} {n : Nat} {Q : Int × Int × Nat → Shared → Prop} (hs : s.heap.IsSliceOf sl .none .none vs) (ps : IsPart vs (some (-1))) (q : Q ((n : Int) - 1, -1, n) s) :
    wpAny (model prog w) A (Builtin.Slice.sliceApplied (.ref sl) (pure (n : Int))) Q E s := by
  obtain ⟨o, at1, _, dat⟩ := hs
  have fin : wpAny (model prog w) A (pure (Builtin.Slice.sliceAdjust none none (-1) (n : Int)) >>= fun z : Int × Int => pure (z.1, (-1 : Int), Builtin.Slice.slicePlaces z.1 z.2 (-1))) Q E s := by
    rw [back_adjust]
    refine wpAny_bind (wpAny_pure (wpAny_pure ?_))
    rw [back_places]
    exact q
  unfold Builtin.Slice.sliceApplied Builtin.Slice.sliceFields
  refine wpAny_bind (wpAny_bind (wpAny_field at1 dat (x := .none) rfl (wpAny_bind (wpAny_field at1 dat (x := .none) rfl (wpAny_bind (wpAny_field at1 dat (x := vs) rfl (wpAny_pure (wpAny_bind (HT.slicePart_ ps ?_)))))))))
  show wpAny _ _ (if ((-1 : Int) == 0) = true then _ else _) _ _ s
  rw [if_neg (by decide)]
  refine wpAny_bind (HT.slicePart_ .none (wpAny_bind (HT.slicePart_ .none (wpAny_bind (wpAny_pure ?_)))))
  show wpAny _ _ (pure ((Builtin.Slice.sliceAdjust none none (-1) (n : Int)).1, (-1 : Int), _)) _ _ s
  rw [back_adjust]
  refine wpAny_pure ?_
  show Q (_, _, Builtin.Slice.slicePlaces ((n : Int) - 1) (-1) (-1)) s
  rw [back_places]
  exact q
theorem back_tup {t sl : Addr} {items : Array Value} {vs : Value} {Q : Value → Shared → Prop} (ht : IsTup s.heap t items) (hs : s.heap.IsSliceOf sl .none .none vs) (ps : IsPart vs (some (-1))) (fit : items.size ≤ sizeLine)
    (q : Q (.ref s.heap.objs.size) { s with heap := s.heap.push { cls := .type "tuple", data := .seq items.toList.reverse.toArray } }) : wpAny (model prog w) A (getItem (.ref t) (.ref sl)) Q E s := by
  have ty : s.TypeIs (.ref sl) "slice" := by
    obtain ⟨o, at1, cls, _⟩ := hs
    exact ⟨o, at1, cls⟩
  unfold getItem
  refine wpAny_holding (wpAny_bind (wpAny_sequenceKey ht.typeIs (by decide) (wpAny_bind (wpAny_callSpecial?_slot (name := Str.ofString "__getitem__") ht.typeIs slot_tuple_getitem (wpAny_call_entry slot_tuple_getitem ht.typeIs entry_tuple_getitem ?_ (args_tuple_getitem _ _))))))
  refine wpAny_bind (m := Builtin.Tuple.tupleItemsOf (.ref t)) (tupleItemsOf_ ht (wpAny_bind (wpAny_typeOf ty ?_)))
  rw [if_pos (by decide)]
  refine wpAny_bind (back_parts hs ps ?_)
  have no : ¬ ((((items.size : Int) - 1) == 0 && (-1 : Int) == 1 && items.size == items.size) = true) := by
    rw [show ((-1 : Int) == 1) = false from rfl, Bool.and_false, Bool.false_and]
    exact Bool.false_ne_true
  have small : sizeOk (.seq items.toList.reverse.toArray) := by
    show items.toList.reverse.toArray.size ≤ sizeLine
    rw [List.size_toArray, List.length_reverse, Array.length_toList]
    exact fit
  show wpAny _ _ (if (((items.size : Int) - 1) == 0 && (-1 : Int) == 1 && items.size == items.size) = true then _ else _) _ _ s
  rw [if_neg no, back_pick]
  exact wpAny_bind (m := Builtin.Tuple.tupleExact _) (wpAny_newObj_type (wpAny_pure ⟨_, rfl, wpAny_pure q⟩) small)
end
section
variable {X : Cx}
def tRevT (K : PySem.W.Frag) (te : TE) : TE := fun σ H Q => te σ H fun x H1 => ∃ a xs, x = .ref a ∧ SqT K H1 a xs ∧ ∀ p, H1 p = none → Q (.ref p) (upd H1 p (.tup xs.reverse))
theorem pe_revT {e : Expr} {te : TE} {k : Nat} {p1 p2 p3 pos : Pos} (he : PE X e te) : PE X (.Subscript e (.Slice none none (some (.UnaryOp .USub (.Constant (.int 1) k p1) p2)) p3) pos) (tRevT X.K te) := by
  refine ⟨fun pins s σ H Q inv h => Subscript_ (thn (he.run pins s σ H _ inv h) fun v s1 ⟨x, H1, inv1, rel, a, xs, ex, sq, q⟩ => ?_)⟩
  subst ex
  cases rel
  refine wpAny_Slice (thn (po_none.run pins s1 σ H1 (fun o G => o = none ∧ G = H1) inv1 ⟨rfl, rfl⟩) fun v1 s2 ⟨l1, G2, inv2, part1, z1, z2⟩ => thn (po_none.run pins s2 σ G2 (fun o G => o = none ∧ G = G2) inv2 ⟨rfl, rfl⟩) fun v2 s3 ⟨l2, G3, inv3, part2, z3, z4⟩ =>
    thn ((po_some (pe_un un_neg pe_int)).run pins s3 σ G3 (fun o G => o = some (-1) ∧ G = G3) inv3 ⟨1, rfl, -1, rfl, rfl, rfl⟩) fun v3 s4 ⟨l3, G4, inv4, part3, z5, z6⟩ => ?_)
  subst z1 z2 z3 z4 z5 z6
  have n1 : v1 = .none := by cases part1; rfl
  have n2 : v2 = .none := by cases part2; rfl
  subst n1 n2
  have inv5 := inv4.kept (t' := s4.toks) (h' := s4.heap.push { cls := .type "slice", data := .fields #[.none, .none, v3] }) fun b ob e' => Heap.get?_push_of_some _ e'
  obtain ⟨its, vals, tp, fit⟩ := inv5.tuple sq
  refine tail_any (ops := [.ref a, .ref s4.heap.objs.size]) tp.typeIs slot_tuple_getitem.lookup ?_ (by with_unfolding_all rfl)
  refine back_tup tp (Heap.IsSliceOf.new _ .none .none v3) part3 (by rw [List.size_toArray, ← vals.length]; exact fit) ?_
  refine ⟨.ref _, _, inv5.laid (t' := s4.toks) (o := .tup xs.reverse) (fun b ob e' => Heap.get?_push_of_some _ e') (Nat.le_refl _) ?_, rfl, q _ (inv5.hok.fresh (Nat.le_refl _))⟩
  exact ⟨by rw [List.length_reverse]; exact fit, _, vals.reverse, IsTup.new _ _⟩
end
end Lt

set_option Elab.async false
set_option linter.all false
set_option maxRecDepth 100000
set_option maxHeartbeats 4000000
/-! expressions that make data and touch nothing -/
namespace Lt
open PySem PySem.Spec PyProof.Rows L2
section
variable {K : PySem.W.Frag} {AV : List Addr} {σ : L2.St} {H : Hp}
def Mk (K : PySem.W.Frag) (AV : List Addr) (te : TE) (σ : L2.St) (H : Hp) (d : PyData) : Prop := ∀ H1, Same H H1 → Taken H1 AV → ∀ Q : VK, (∀ v H', Same H1 H' → Taken H' AV → Dp K (cutH H' AV) v d → Q v H') → te σ H1 Q
def MkA (K : PySem.W.Frag) (AV : List Addr) (ts : TA) (σ : L2.St) (H : Hp) (ds : List PyData) : Prop := ∀ H1, Same H H1 → Taken H1 AV → ∀ Q : List V → Hp → Prop, (∀ vs H', Same H1 H' → Taken H' AV → DpAll K (cutH H' AV) vs ds → Q vs H') → ts σ H1 Q
theorem mkVar {i : Nat} {v : V} {d : PyData} (e : σ[i]? = some (some v)) (dp : Dp K (cutH H AV) v d) : Mk K AV (tVar i) σ H d := fun H1 s t Q q => ⟨v, e, q v H1 (Same.refl _) t (dp_same (cutH_same s) dp)⟩
theorem mkC {v : V} {d : PyData} (dp : ∀ H, Dp K H v d) : Mk K AV (tC v) σ H d := fun H1 s t Q q => q v H1 (Same.refl _) t (dp _)
theorem mkNil : MkA K AV tNil σ H [] := fun H1 s t Q q => q [] H1 (Same.refl _) t .nil
theorem mkCons {te : TE} {ts : TA} {d : PyData} {ds : List PyData} (a : Mk K AV te σ H d) (b : MkA K AV ts σ H ds) : MkA K AV (tCons te ts) σ H (d :: ds) := fun H1 s t Q q =>
  a H1 s t _ fun v H2 s2 t2 dv => b H2 (s.trans s2) t2 _ fun vs H3 s3 t3 da => q _ _ (s2.trans s3) t3 (.cons (dp_same (cutH_same s3) dv) da)
theorem new_tup {H' : Hp} {p : Addr} {vs : List V} {ds : List PyData} (t : Taken H' AV) (hp : H' p = none) (da : DpAll K (cutH H' AV) vs ds) : Dp K (cutH (upd H' p (.tup vs)) AV) (.ref p) (.tuple ds) :=
  .tup (sqt (by rw [cutH_out (t.new hp)]; exact upd_same)) (dpAll_same (cutH_same (same_new hp _)) da)
theorem new_fz {H' : Hp} {p : Addr} {u : HO} {vs : List V} {ds : List PyData} (t : Taken H' AV) (hp : H' p = none) (hu : IsFz u vs) (da : DpAll K (cutH H' AV) vs ds) : Dp K (cutH (upd H' p u) AV) (.ref p) (.tuple ds) :=
  .tup (TpO.sqt ⟨u, by rw [cutH_out (t.new hp)]; exact upd_same, hu⟩) (dpAll_same (cutH_same (same_new hp _)) da)
theorem new_lst {H' : Hp} {p : Addr} {vs : List V} {ds : List PyData} (t : Taken H' AV) (hp : H' p = none) (da : DpAll K (cutH H' AV) vs ds) : Dp K (cutH (upd H' p (.lst vs)) AV) (.ref p) (.list ds) :=
  .lst (sql (by rw [cutH_out (t.new hp)]; exact upd_same)) (dpAll_same (cutH_same (same_new hp _)) da)
theorem mkTup {ts : TA} {ds : List PyData} (a : MkA K AV ts σ H ds) (l : ds.length ≤ 1000) : Mk K AV (tTup ts) σ H (.tuple ds) := fun H1 s t Q q =>
  a H1 s t _ fun vs H2 s2 t2 da => ⟨Nat.le_of_lt (small1000 (by rw [dpAll_len da]; exact l)), fun p hp => q _ _ (s2.trans (same_new hp _)) (t2.same (same_new hp _)) (new_tup t2 hp da)⟩
theorem mkListOf {te : TE} {d : PyData} {ds : List PyData} (a : Mk K AV te σ H d) (e : d = .tuple ds ∨ d = .list ds) :
    Mk K AV (tCB (fun xs H Q => ∃ p ys, xs = [.ref p] ∧ (SqL K H p ys ∨ SqT K H p ys) ∧ ∀ l, H l = none → Q (.ref l) (upd H l (.lst ys))) (tCons te tNil)) σ H (.list ds) := fun H1 s t Q q =>
  a H1 s t _ fun v H2 s2 t2 dv => by
    obtain ⟨x, vs, ds', rfl, sq, da, ed⟩ := seq_of dv (e.elim (fun h => .inl ⟨_, h⟩) fun h => .inr ⟨_, h⟩)
    have e2 : ds' = ds := by
      rcases e with rfl | rfl
      · rcases ed with h | h
        · exact (PyData.tuple.inj h).symm
        · cases h
      · rcases ed with h | h
        · cases h
        · exact (PyData.list.inj h).symm
    subst e2
    have z := cutH_sub H2 AV
    exact ⟨x, vs, rfl, sq.elim (fun h => .inl (z.seq h)) (fun h => .inr (same_tup z h)), fun l hl => q _ _ (s2.trans (same_new hl _)) (t2.same (same_new hl _)) (new_lst t2 hl da)⟩
theorem mkTupOf {te : TE} {ds : List PyData} (a : Mk K AV te σ H (.list ds)) : Mk K AV (tCB (rTupZ K) (tCons te tNil)) σ H (.tuple ds) := fun H1 s t Q q =>
  a H1 s t _ fun v H2 s2 t2 dv => by
    obtain ⟨x, vs, rfl, sq, da⟩ := lst_of dv
    exact ⟨x, vs, rfl, (cutH_sub H2 AV).seq sq, fun l u hl hu => q _ _ (s2.trans (same_new hl _)) (t2.same (same_new hl _)) (new_fz t2 hl hu da)⟩
theorem mkCat {ta tb : TE} {xs ys : List PyData} (a : Mk K AV ta σ H (.tuple xs)) (b : Mk K AV tb σ H (.tuple ys)) (l : xs.length + ys.length ≤ 1000) : Mk K AV (tOp (rCatA K) ta tb) σ H (.tuple (xs ++ ys)) := fun H1 s t Q q =>
  a H1 s t _ fun v H2 s2 t2 dv => b H2 (s.trans s2) t2 _ fun w H3 s3 t3 dw => by
    have dv3 := dp_same (cutH_same s3) dv
    obtain ⟨x, us, rfl, sx, ax⟩ := tup_of dv3
    obtain ⟨y, vs, rfl, sy, ay⟩ := tup_of dw
    have z := cutH_sub H3 AV
    have lx := dpAll_len ax
    have ly := dpAll_len ay
    refine ⟨x, y, us, vs, rfl, rfl, same_tup z sx, same_tup z sy, Nat.le_of_lt (small1000 (by omega)), fun e => ?_, fun _ e => ?_, fun _ _ p hp => ?_⟩
    · obtain rfl : xs = [] := List.eq_nil_of_length_eq_zero (by rw [← lx, e]; rfl)
      exact q _ _ (s2.trans s3) t3 dw
    · obtain rfl : ys = [] := List.eq_nil_of_length_eq_zero (by rw [← ly, e]; rfl)
      have dv4 : Dp K (cutH H3 AV) (.ref x) (.tuple (xs ++ [])) := by
        rw [List.append_nil]
        exact dv3
      exact q _ _ (s2.trans s3) t3 dv4
    · exact q _ _ (s2.trans (s3.trans (same_new hp _))) (t3.same (same_new hp _)) (new_tup t3 hp (dpAll_append ax ay))
theorem cut_take (xs : List V) (j : Nat) : cutV xs none (some (j : Int)) = xs.take j := by
  rcases Nat.le_total j xs.length with h | h
  · exact cut_to h
  · unfold cutV
    rw [HT.sIx_none, HT.sIx_nat, List.take_of_length_le (l := xs) h]
    simp [Nat.min_eq_right h]
theorem mkTake {te : TE} {xs : List PyData} {j : Nat} (a : Mk K AV te σ H (.tuple xs)) : Mk K AV (tSl (rSlA K) te tNoPart (tPart (tC (.int j)))) σ H (.tuple (xs.take j)) := fun H1 s t Q q =>
  a H1 s t _ fun v H2 s2 t2 dv => by
    obtain ⟨x, vs, rfl, sx, ax⟩ := tup_of dv
    have z := cutH_sub H2 AV
    refine ⟨j, rfl, x, vs, rfl, same_tup z sx, fun h => ?_, fun _ p hp => ?_⟩
    · have e := cut_all h
      rw [cut_take] at e
      have lx := dpAll_len ax
      have e2 : xs.take j = xs := List.take_of_length_le (by
        have w := congrArg List.length e
        rw [List.length_take] at w
        omega)
      have dv4 : Dp K (cutH H2 AV) (.ref x) (.tuple (xs.take j)) := by
        rw [e2]
        exact dv
      exact q _ _ s2 t2 dv4
    · rw [cut_take]
      exact q _ _ (s2.trans (same_new hp _)) (t2.same (same_new hp _)) (new_tup t2 hp (dpAll_take ax j))
theorem mkTakeL {te : TE} {xs : List PyData} {j : Nat} (a : Mk K AV te σ H (.list xs)) : Mk K AV (tSl (rSlL K) te tNoPart (tPart (tC (.int j)))) σ H (.list (xs.take j)) := fun H1 s t Q q =>
  a H1 s t _ fun v H2 s2 t2 dv => by
    obtain ⟨x, vs, rfl, sx, ax⟩ := lst_of dv
    refine ⟨j, rfl, x, vs, rfl, (cutH_sub H2 AV).seq sx, fun p hp => ?_⟩
    rw [cut_take]
    exact q _ _ (s2.trans (same_new hp _)) (t2.same (same_new hp _)) (new_lst t2 hp (dpAll_take ax j))
theorem mkRev {te : TE} {xs : List PyData} (a : Mk K AV te σ H (.tuple xs)) : Mk K AV (tRevT K te) σ H (.tuple xs.reverse) := fun H1 s t Q q =>
  a H1 s t _ fun v H2 s2 t2 dv => by
    obtain ⟨x, vs, rfl, sx, ax⟩ := tup_of dv
    exact ⟨x, vs, rfl, same_tup (cutH_sub H2 AV) sx, fun p hp => q _ _ (s2.trans (same_new hp _)) (t2.same (same_new hp _)) (new_tup t2 hp (dpAll_rev ax))⟩
theorem mkBooks : Mk K AV (tCall spBooks [] E0 tNil) σ H (.list (books.map PyData.str)) := fun H1 s t Q q =>
  ⟨rfl, fun p hp => q _ _ (same_new hp _) (t.same (same_new hp _)) (new_lst t hp (dpAll_strs books))⟩
end
end Lt

set_option Elab.async false
set_option linter.all false
set_option maxRecDepth 100000
set_option maxHeartbeats 4000000
namespace Lt
open PySem PySem.Spec PyProof.Rows L2
def chk : Nat → Nat → PyData → Bool
  | 0, b, d => match d with
    | .str z => decide (z.length ≤ b) && PyData.strOk z
    | .int _ => true
    | .bool _ => true
    | _ => false
  | n + 1, b, d => match d with
    | .str z => decide (z.length ≤ b) && PyData.strOk z
    | .tuple ds => decide (ds.length ≤ b) && ds.all (chk n b)
    | .int _ => true
    | .bool _ => true
    | _ => false
theorem chk_ok : ∀ {n b : Nat} {d : PyData}, chk n b d = true → Bd n b d
  | 0, b, .str z, h => by
    have z := Bool.and_eq_true_iff.mp h
    exact ⟨of_decide_eq_true z.1, z.2⟩
  | 0, b, .int _, h => Bd.int _ _ _
  | 0, b, .bool _, h => Bd.bool _ _ _
  | n + 1, b, .str z, h => by
    have z := Bool.and_eq_true_iff.mp h
    exact ⟨of_decide_eq_true z.1, z.2⟩
  | n + 1, b, .tuple ds, h => by
    have z := Bool.and_eq_true_iff.mp h
    exact ⟨of_decide_eq_true z.1, fun e he => chk_ok (List.all_eq_true.mp z.2 e he)⟩
  | n + 1, b, .int _, h => Bd.int _ _ _
  | n + 1, b, .bool _, h => Bd.bool _ _ _
abbrev pairT (p : Str × Nat) : PyData := .tuple [.str p.1, .int p.2]
theorem book_ok : ∀ z ∈ books, z.length ≤ 20 ∧ PyData.strOk z = true := by decide +kernel
theorem bd_txt {bs : List Str} (h : ∀ z ∈ bs, z ∈ books) {n : Nat} : ∀ x ∈ bs.map PyData.str, Bd n 20 x := fun x hx => by
  obtain ⟨z, hz, rfl⟩ := List.mem_map.mp hx
  have k := book_ok z (h z hz)
  exact Bd.str k.1 k.2
theorem bd_want {ws : List (Str × Nat)} (h : ∀ p ∈ ws, p.1 ∈ books) {n : Nat} : ∀ x ∈ ws.map pairT, Bd (n + 1) 20 x := fun x hx => by
  obtain ⟨p, hp, rfl⟩ := List.mem_map.mp hx
  have k := book_ok p.1 (h p hp)
  refine ⟨by show 2 ≤ 20; decide, fun e he => ?_⟩
  rcases List.mem_cons.mp he with e1 | he
  · rw [e1]
    exact Bd.str k.1 k.2
  · rw [List.mem_singleton.mp he]
    exact Bd.int _ _ _
theorem dpAll_wl {K : PySem.W.Frag} {H : Hp} : ∀ {ts : List Addr} {ws : List (Str × Nat)}, WL H ts ws → DpAll K H (ts.map V.ref) (ws.map pairT)
  | [], [], _ => .nil
  | [], w :: r, h => nomatch h.1
  | t :: r, [], h => nomatch h.1
  | t :: r, w :: u, h => .cons (.tup (sqt (h.2 0 t w rfl rfl)) (.cons (.str _) (.cons (.int _) .nil))) (dpAll_wl ⟨Nat.succ.inj h.1, fun i t' p a b => h.2 (i + 1) t' p a b⟩)
theorem wl_cut {T : Addr} {H : Hp} {ts : List Addr} {ws : List (Str × Nat)} {xs : List V} (hT : H T = some (.lst xs)) (h : WL H ts ws) : WL (cutH H [T]) ts ws := h.move fun t ys e => by
  rw [cutH_out fun z => ne_of e hT (fun w => nomatch w) (List.mem_singleton.mp z)]
  exact e
theorem tp_cut {T a : Addr} {H : Hp} {xs ys : List V} (hT : H T = some (.lst xs)) (h : TpO H a ys) : TpO (cutH H [T]) a ys := by
  have n := h.ne hT fun o w => nomatch w
  obtain ⟨u, hu, f⟩ := h
  exact ⟨u, by rw [cutH_out fun z => n (List.mem_singleton.mp z)]; exact hu, f⟩
end Lt

set_option Elab.async false
set_option linter.all false
set_option maxRecDepth 100000
set_option maxHeartbeats 4000000
/-! list(range(i, j, 2)) -/
namespace Lt
open PySem PySem.Spec PyProof.Rows L2
section
variable {X : Cx}
/-- i, i + 2, .. below j -/
def nEv (i j : Nat) : Nat := if i < j then (j - i - 1) / 2 + 1 else 0
theorem nEv_le (i j : Nat) : nEv i j ≤ j := by
  unfold nEv
  split <;> omega
def evens (i j : Nat) : List Nat := (List.range (nEv i j)).map fun t => i + 2 * t
theorem size_two (i j : Nat) : Builtin.Range.rangeSize (i : Int) (j : Int) 2 = (nEv i j : Int) := by
  unfold Builtin.Range.rangeSize nEv
  rw [if_pos (show (2 : Int) > 0 by decide)]
  by_cases h : i < j
  · rw [if_pos h, if_pos (show (i : Int) < j by omega)]
    omega
  · rw [if_neg h, if_neg (show ¬ (i : Int) < j by omega)]
    rfl
theorem fitsL {i : Int} (h1 : 0 ≤ i) (h2 : i ≤ 1000000) : Builtin.Range.rangeFitsLong i = true := by
  unfold Builtin.Range.rangeFitsLong
  rw [decide_eq_true (show -(2 ^ 63) ≤ i by omega), decide_eq_true (show i < 2 ^ 63 by omega)]
  rfl
theorem rg_two {i j : Nat} (hi : i ≤ 1000) (hj : j ≤ 1000) : RgC (i : Int) (j : Int) 2 (nEv i j) := by
  refine ⟨by decide, by decide, ?_, size_two i j⟩
  unfold Builtin.Range.small
  have hn := nEv_le i j
  rw [size_two, if_pos (show (2 : Int) > 0 by decide), fitsL (i := (i : Int)) (by omega) (by omega), fitsL (i := (j : Int)) (by omega) (by omega), fitsL (i := 2) (by omega) (by omega), fitsL (i := (nEv i j : Int)) (by omega) (by omega), fitsL (i := (j : Int) + (2 - 1)) (by omega) (by omega), Bool.or_true]
  rfl
def tLR3 (ta : TA) : TE := fun σ H Q => ta σ H fun vs H1 => ∃ i j : Nat, vs = [natV i, natV j, .int 2] ∧ i ≤ 1000 ∧ j ≤ 1000 ∧ ∀ q, H1 q = none → Q (.ref q) (upd H1 q (.lst ((evens i j).map natV)))
theorem pe_listR3 {a b c : Expr} {ta : TA} {p pos p2 pos2 : Pos} (hc : X.calm = true) (hg : Gl X "list") (hm : X.mg "list" = none) (hg2 : Gl X "range") (hm2 : X.mg "range" = none) (ha : PA X [a, b, c] ta)
    (hs : starEach [a, b, c] X.env = (false, eval a X.env) :: starEach [b, c] X.env := by rfl) (hpl : (backTo pos2 (starEach [b, c] X.env)).any (·.1) = false := by rfl)
    (na : starEach [.Call (.Name "range" p2) [a, b, c] [] pos2] X.env = (false, eval (.Call (.Name "range" p2) [a, b, c] [] pos2) X.env) :: starEach [] X.env := by rfl) :
    PE X (.Call (.Name "list" p) [.Call (.Name "range" p2) [a, b, c] [] pos2] [] pos) (tLR3 ta) := by
  refine ⟨fun pins s σ H Q I h => ?_⟩
  refine Call_ (ld_blt I hg hm boot_list (PyProof.Rows.callWith_type1 (args_cons (Call_ (ld_blt I hg2 hm2 boot_range (PyProof.Rows.callWith_type1 (thn (ha.run pos2 pins s σ H _ I h) fun us s1 ⟨vs, H1, I1, r1, q1⟩ => ?_) hs hpl))) na) na))
  obtain ⟨i, j, e, hi, hj, q⟩ := q1
  subst e
  cases r1 with
  | cons r rr =>
    cases rr with
    | cons r' rr =>
      cases rr with
      | cons r'' rr =>
        cases rr
        obtain ⟨t, rfl⟩ := r
        obtain ⟨t', rfl⟩ := r'
        obtain ⟨t'', rfl⟩ := r''
        obtain ⟨c0, c1, c2, c3⟩ := rg_two hi hj
        refine call_range_3 c0 ?_ (.inl (PyProof.noPylong_small c1))
        have I2 : Inv X pins σ H1 { s1 with heap := s1.heap.push { cls := .type "range", data := .fields #[.int (i : Int) t, .int (j : Int) t', .int 2 t''] } } := I1.kept (t' := s1.toks) fun b o e => Heap.get?_push_of_some _ e
        refine args_nil ?_
        refine call_list_range (n := nEv i j) (I2.ok.hd hc) (IsRange.new ..) c2 c3 (by have := nEv_le i j; omega) fun h' tk acc c' hk e' it => ?_
        have vals : Vals ((evens i j).map natV) acc.toList := by
          have el : acc.toList.length = nEv i j := by rw [Array.length_toList]; exact it.1
          unfold evens
          rw [← el, List.map_map]
          refine vals_of_get acc.toList _ fun k u hk => ?_
          obtain ⟨tt, rfl⟩ := it.2 k u (by rw [← hk, Array.getElem?_toList])
          refine ⟨tt, ?_⟩
          have e1 : (i : Int) + (k : Nat) * 2 = ((i + 2 * k : Nat) : Int) := by omega
          rw [e1]
        refine ⟨.ref _, _, I2.laid hk (Nat.le_refl _) (show ObjOk X.prog X.w _ _ _ (.lst ((evens i j).map natV)) from ⟨?_, acc.toList, c', vals, ?_⟩), rfl, q _ (I2.hok.fresh (Nat.le_refl _))⟩
        · rw [List.length_map]
          unfold evens
          rw [List.length_map, List.length_range]
          exact Nat.le_of_lt (small1000 (Nat.le_trans (nEv_le i j) hj))
        · rw [Array.toArray_toList]
          exact e'
end
end Lt

set_option Elab.async false
set_option linter.all false
set_option maxRecDepth 100000
set_option maxHeartbeats 4000000
namespace Lt
open PySem PySem.Spec PyProof.Rows L2
section
variable {K : PySem.W.Frag} {T : Addr} {σ : L2.St} {H : Hp}
theorem MkA.go {AV : List Addr} {ts : TA} {ds : List PyData} {Q : List V → Hp → Prop} (a : MkA K AV ts σ H ds) (t : Taken H AV) (q : ∀ vs H', Same H H' → Taken H' AV → DpAll K (cutH H' AV) vs ds → Q vs H') : ts σ H Q := a H (Same.refl _) t Q q
theorem new_in {H H' : Hp} {L : Addr} (s : Same H H') (n : H L = none) : Same (cutH H [T]) (cutH H' [L, T]) := cutH_fresh (T := T) (by simp) (SameT.of s) n
/-- a list under change: its items without itself and without the tape -/
structure Ths (K : PySem.W.Frag) (T : Addr) (H : Hp) (L : Addr) (vs : List V) (ds : List PyData) : Prop where
  at_ : H L = some (.lst vs)
  ne : L ≠ T
  all : DpAll K (cutH H [L, T]) vs ds
  few : ds.length ≤ 100
  bd : ∀ d ∈ ds, Bd 8 36 d
theorem Ths.same {H H' : Hp} {L : Addr} {vs : List V} {ds : List PyData} (t : Ths K T H L vs ds) (s : Same H H') : Ths K T H' L vs ds := ⟨s _ _ t.at_, t.ne, dpAll_same (cutH_same s) t.all, t.few, t.bd⟩
theorem Ths.sameT {H H' : Hp} {L : Addr} {vs : List V} {ds : List PyData} (t : Ths K T H L vs ds) (s : SameT T H H') : Ths K T H' L vs ds := ⟨s _ _ t.ne t.at_, t.ne, dpAll_same (cutH_sameT (by simp) s) t.all, t.few, t.bd⟩
theorem Ths.app {H : Hp} {L : Addr} {vs : List V} {ds : List PyData} {v : V} {d : PyData} (t : Ths K T H L vs ds) (dv : Dp K (cutH H [L, T]) v d) (l : ds.length < 100) (b : Bd 8 36 d) : Ths K T (upd H L (.lst (vs ++ [v]))) L (vs ++ [v]) (ds ++ [d]) := by
  refine ⟨upd_same, t.ne, ?_, by rw [List.length_append]; show _ + 1 ≤ 100; omega, fun x hx => ?_⟩
  · rw [cutH_put (by simp)]
    exact dpAll_snoc t.all dv
  · rcases List.mem_append.mp hx with hx | hx
    · exact t.bd x hx
    · rw [List.mem_singleton.mp hx]
      exact b
theorem go_lst {ts : TA} {ds : List PyData} {Q : VK} (a : MkA K [T] ts σ H ds) (t : Taken H [T]) (l : ds.length ≤ 100) (b : ∀ d ∈ ds, Bd 8 36 d) (q : ∀ L vs H', H L = none → Same H H' → Same (cutH H [T]) (cutH H' [L, T]) → Ths K T H' L vs ds → Q (.ref L) H') : tLst ts σ H Q :=
  a.go t fun vs H2 s2 t2 da => ⟨Nat.le_of_lt (small1000 (by rw [dpAll_len da]; omega)), fun L hL => q L vs _ (s2.free hL) (s2.trans (same_new hL _)) ((cutH_same s2).trans (new_in (same_new hL _) hL)) ⟨upd_same, fun e => t2.new hL (by rw [e]; simp), dpAll_same (new_in (same_new hL _) hL) da, l, b⟩⟩
theorem go_cat {i : Nat} {ts : TA} {L : Addr} {vs : List V} {ds es : List PyData} {Q : VK} (e : σ[i]? = some (some (.ref L))) (th : Ths K T H L vs ds) (a : MkA K [T] ts σ H es) (t : Taken H [T]) (l : ds.length + es.length ≤ 100) (b : ∀ d ∈ es, Bd 8 36 d)
    (q : ∀ L vs H', H L = none → Same H H' → Same (cutH H [T]) (cutH H' [L, T]) → Ths K T H' L vs (ds ++ es) → Q (.ref L) H') : tOp rCat (tVar i) (tLst ts) σ H Q := by
  refine ⟨_, e, a.go t fun ws H2 s2 t2 da => ⟨Nat.le_of_lt (small1000 (by rw [dpAll_len da]; omega)), fun M hM => ?_⟩⟩
  have s3 := s2.trans (same_new hM (.lst ws))
  have l1 := dpAll_len th.all
  have l2 := dpAll_len da
  refine ⟨L, M, vs, ws, rfl, rfl, s3 _ _ th.at_, upd_same, Nat.le_of_lt (small1000 (by omega)), fun N hN => ?_⟩
  have s4 := same_new hN (.lst (vs ++ ws))
  have t3 := t2.same (same_new hM (.lst ws))
  refine q N (vs ++ ws) _ (s3.free hN) (s3.trans s4) ((cutH_same s3).trans (new_in s4 hN)) ⟨upd_same, fun e => t3.new hN (by rw [e]; simp), ?_, by rw [List.length_append]; exact l, fun x hx => ?_⟩
  · refine dpAll_append (dpAll_same ?_ th.all) (dpAll_same ?_ da)
    · exact ((cutH_less (A := [T]) (B := [L, T]) fun b hb => List.mem_cons_of_mem _ hb).trans (cutH_same s3)).trans (new_in s4 hN)
    · exact (cutH_same (same_new hM _)).trans (new_in s4 hN)
  · rcases List.mem_append.mp hx with hx | hx
    · exact th.bd x hx
    · exact b x hx
/-- what stands while the things are gathered -/
structure Wk (K : PySem.W.Frag) (T S p W : Addr) (ns : List Int) (Ps : List Addr) (pd wd : List PyData) (H : Hp) (L : Addr) (vs : List V) (ds : List PyData) : Prop where
  tp : Tape H T S ns
  tg : Tabs H Ps
  th : Ths K T H L vs ds
  dP : Dp K (cutH H [L, T]) (.ref p) (.tuple pd)
  dW : Dp K (cutH H [L, T]) (.ref W) (.tuple wd)
  nS : S ≠ L
theorem Wk.same {S p W L : Addr} {ns : List Int} {Ps : List Addr} {pd wd ds : List PyData} {H H' : Hp} {vs : List V} (h : Wk K T S p W ns Ps pd wd H L vs ds) (s : Same H H') : Wk K T S p W ns Ps pd wd H' L vs ds :=
  ⟨h.tp.same s, h.tg.same s, h.th.same s, dp_same (cutH_same s) h.dP, dp_same (cutH_same s) h.dW, h.nS⟩
theorem Wk.sameT {S p W L : Addr} {ns : List Int} {Ps : List Addr} {pd wd ds : List PyData} {H H' : Hp} {vs : List V} (h : Wk K T S p W ns Ps pd wd H L vs ds) (s : SameT T H H') (t : Tape H' T S ns) : Wk K T S p W ns Ps pd wd H' L vs ds := by
  obtain ⟨_, _, t1⟩ := h.tp.at_
  exact ⟨t, h.tg.but s ⟨_, t1⟩, h.th.sameT s, dp_same (cutH_sameT (by simp) s) h.dP, dp_same (cutH_sameT (by simp) s) h.dW, h.nS⟩
theorem Wk.app {S p W L : Addr} {ns : List Int} {Ps : List Addr} {pd wd ds : List PyData} {H : Hp} {vs : List V} {v : V} {d : PyData} (h : Wk K T S p W ns Ps pd wd H L vs ds) (dv : Dp K (cutH H [L, T]) v d) (l : ds.length < 100) (b : Bd 8 36 d) :
    Wk K T S p W ns Ps pd wd (upd H L (.lst (vs ++ [v]))) L (vs ++ [v]) (ds ++ [d]) := by
  refine ⟨?_, h.tg.but (sameT_put (T := L) (H := H) _) ⟨_, h.th.at_⟩, h.th.app dv l b, by rw [cutH_put (by simp)]; exact h.dP, by rw [cutH_put (by simp)]; exact h.dW, h.nS⟩
  obtain ⟨x, y, t⟩ := h.tp.at_
  exact ⟨⟨x, y, by rw [upd_ne h.th.ne.symm]; exact t⟩, by rw [upd_ne h.nS]; exact h.tp.scr⟩
theorem Wk.tak {S p W L : Addr} {ns : List Int} {Ps : List Addr} {pd wd ds : List PyData} {H : Hp} {vs : List V} (h : Wk K T S p W ns Ps pd wd H L vs ds) : Taken H [L, T] :=
  Taken.cons (fun b hb => by rw [List.mem_singleton.mp hb]; exact h.tp.tak) (by rw [h.th.at_]; exact fun z => nomatch z)
theorem Wk.tak1 {S p W L : Addr} {ns : List Int} {Ps : List Addr} {pd wd ds : List PyData} {H : Hp} {vs : List V} (h : Wk K T S p W ns Ps pd wd H L vs ds) : Taken H [T] := fun b hb => by rw [List.mem_singleton.mp hb]; exact h.tp.tak
theorem Wk.len {S p W L : Addr} {ns : List Int} {Ps : List Addr} {pd wd ds : List PyData} {H : Hp} {vs : List V} (h : Wk K T S p W ns Ps pd wd H L vs ds) : vs.length < sizeLine := small1000 (by
  rw [dpAll_len h.th.all]
  have z := h.th.few
  omega)
theorem mkPr {AV : List Addr} {z : Str} {i : Int} : Mk K AV (tTup (tCons (tC (.str z)) (tCons (tC (.int i)) tNil))) σ H (.tuple [.str z, .int i]) := mkTup (mkCons (mkC fun _ => .str _) (mkCons (mkC fun _ => .int _) mkNil)) (by show 2 ≤ 1000; decide)
theorem one_of {H : Hp} {vs : List V} {d : PyData} (h : DpAll K H vs [d]) : ∃ v, vs = [v] ∧ Dp K H v d := by
  cases h with
  | cons a b =>
    cases b
    exact ⟨_, rfl, a⟩
end
section
variable {P : Program} {w : World} {K : PySem.W.Frag} {mg : Str → Option Value} {base : Heap}
abbrev nLaw : List Str := ["script", "tape", "turn", "pile", "wants", "things", "k", "thing", "book"]
theorem scLaw : FnScope nLaw ["script"] (defScope sLaw) := ⟨rfl, rfl, rfl, by decide +kernel, rfl, by decide +kernel, by decide +kernel⟩
def spLawN (K : PySem.W.Frag) (Ps : List Addr) : Sp := fun vs H Q _ => ∃ (a : Addr) (ns : List Int), vs = [.ref a] ∧ SqL K H a (ns.map V.int) ∧ ns.length ≤ 63 ∧ Tabs H Ps ∧ ∀ H', Q (.bl true) H'
theorem ok_law {f : Addr} {Ps : List Addr} {fd : FuncData} (F : Fun K "law" "law" sLaw f fd) (B : Bi mg) (cB : Has P w K mg base 1 "_law_books" [] spBooks) (cPi : Has P w K mg base 3 "_law_pile" ["tape", "size"] spPile) (cWa : Has P w K mg base 2 "_law_wants" ["tape", "books", "readers"] spWants)
    (cSp : Has P w K mg base 10 "_law_spoilt" ["tape", "item"] (spSpoilt K 6)) (cAny : Has P w K mg base 5 "_law_any" ["tape", "deep"] (spAny K 4)) (cLk : Has P w K mg base 1 "_law_like" ["one", "two"] (spLike K 1))
    (cIp : Has P w K mg base 3 "is_pile" ["thing"] (spIsPileN K Ps)) (cLp : Has P w K mg base 2 "_law_is_pile" ["item"] (spLPile K)) (cAw : Has P w K mg base 4 "are_wants" ["thing"] (spAreWants K Ps)) (cLw : Has P w K mg base 3 "_law_are_wants" ["item"] (spLWants K)) :
    FnOk P w K mg base CX0 11 f fd ["script"] (spLawN K Ps) := by
  refine F.ok scLaw (fun vs H Q E h => ?_) (fun cdv A outer s H vs Q E hr h => ?_)
  · obtain ⟨a, ns, rfl, _⟩ := h
    rfl
  obtain ⟨a, ns, rfl, hS, h63, tg0, q⟩ := h
  refine ⟨_, (pss_cons (ps_set (i := 1) scLaw.nd rfl (.inl rfl) (pe_lst (pa_cons (pe_callTy call_list_of (by rfl) B.list (by decide +kernel) (pa_cons (pv 0) pa_nil)) (pa_cons pe_int (pa_cons pe_int pa_nil)))))
 (pss_cons (ps_for PassesOwn.never rfl (pi_range1 (by rfl) B.range (pa_cons pe_int pa_nil)) (pg_name (i := 2) scLaw.nd rfl (.inl rfl))
 (Evl.pss_cut (ps_par (i := 3) (j := 4) (by rfl) scLaw.nd rfl rfl (by decide) rfl rfl (pa_cons (pe_go cPi hr (by decide) rfl (pa_cons (pv 1) (pa_cons pe_int pa_nil))) (pa_cons (pe_go cWa hr (by decide) rfl (pa_cons (pv 1) (pa_cons pe_int (pa_cons pe_int pa_nil)))) pa_nil)) (by rfl))
 (pss_cons (ps_set (i := 5) scLaw.nd rfl (.inl rfl) (pe_lst (pa_cons (pv 3) (pa_cons (pe_callTy call_list_of (by rfl) B.list (by decide +kernel) (pa_cons (pv 3) pa_nil)) (pa_cons (pe_op op_catA (pv 3) (pe_slice sl_tupA (pv 3) po_none (po_some pe_int))) (pa_cons (pe_revT (pv 3)) (pa_cons (pe_tup pa_nil) (pa_cons (pe_callTy call_tupleZ (by rfl) B.tuple (by decide +kernel) (pa_cons (pe_go0 cB hr (by decide) rfl) pa_nil)) (pa_cons (pe_op op_catA (pe_callTy call_tupleZ (by rfl) B.tuple (by decide +kernel) (pa_cons (pe_go0 cB hr (by decide) rfl) pa_nil)) (pe_tup (pa_cons pe_str pa_nil))) pa_nil)))))))))
 (pss_cons (ps_set (i := 5) scLaw.nd rfl (.inl rfl) (pe_op op_cat (pv 5) (pe_lst (pa_cons (pv 4) (pa_cons (pe_revT (pv 4)) (pa_cons (pe_callTy call_list_of (by rfl) B.list (by decide +kernel) (pa_cons (pv 4) pa_nil)) (pa_cons (pe_op op_catA (pv 4) (pe_slice sl_tupA (pv 4) po_none (po_some pe_int))) (pa_cons (pe_tup (pa_cons (pe_tup (pa_cons pe_str (pa_cons pe_int pa_nil))) (pa_cons (pe_tup (pa_cons pe_str (pa_cons pe_int pa_nil))) pa_nil))) pa_nil))))))))
 (pss_cons (ps_expr (pe_bm PySem.F.plainAttrs_list PySem.F.slot_list_append PySem.F.type_list_append mt_append (pv 5) (pa_cons (pe_tup (pa_cons (pe_tup (pa_cons pe_str (pa_cons pe_int pa_nil))) (pa_cons (pe_tup (pa_cons pe_str (pa_cons pe_int pa_nil))) pa_nil))) pa_nil)))
 (Evl.pss_cut (ps_set (i := 5) scLaw.nd rfl (.inl rfl) (pe_op op_cat (pv 5) (pe_lst (pa_cons (pe_tup (pa_cons (pe_tup (pa_cons pe_str (pa_cons pe_int pa_nil))) pa_nil)) (pa_cons (pe_tup (pa_cons (pe_tup (pa_cons pe_str (pa_cons pe_int pa_nil))) pa_nil)) (pa_cons (pe_tup (pa_cons (pe_tup (pa_cons pe_str (pa_cons pe_bl pa_nil))) pa_nil)) (pa_cons (pe_tup (pa_cons (pe_tup (pa_cons pe_str (pa_cons pe_int pa_nil))) (pa_cons (pe_tup (pa_cons pe_str pa_nil)) pa_nil))) (pa_cons (pe_tup (pa_cons pe_str (pa_cons pe_str pa_nil))) pa_nil))))))))
 (Evl.pss_cut (ps_expr (pe_bm PySem.F.plainAttrs_list PySem.F.slot_list_append PySem.F.type_list_append mt_append (pv 5) (pa_cons (pe_callTy call_tupleZ (by rfl) B.tuple (by decide +kernel) (pa_cons (pe_lc (own := [("book", 8)]) (g := gName 8) (tt := tYes) (te := tTup (tCons (tVar 8) (tCons (tC (.int 1)) tNil))) (by rfl) scLaw.nd (pi_list (pe_slice sl_list (pe_go0 cB hr (by decide) rfl) po_none (po_some pe_int))) (blkOk_by (own := [("book", 8)]) (N := nLaw) (sc := defScope sLaw) (by decide +kernel)) (fun _ _ _ _ _ => pg_name (i := 8) scLaw.nd rfl (.inl rfl)) (fun _ _ _ _ _ => pts_nil) (fun _ _ _ _ _ => pe_tup (pa_cons (pv 8) (pa_cons pe_int pa_nil)))) pa_nil)) pa_nil)))
 (Evl.pss_cut (ps_for PassesOwn.never rfl (pi_range1 (by rfl) B.range (pa_cons pe_int pa_nil)) (pg_name (i := 6) scLaw.nd rfl (.inl rfl))
 (pss_cons (ps_expr (pe_bm PySem.F.plainAttrs_list PySem.F.slot_list_append PySem.F.type_list_append mt_append (pv 5) (pa_cons (pe_go cSp hr (by decide) rfl (pa_cons (pv 1) (pa_cons (pv 3) pa_nil))) pa_nil)))
 (pss_cons (ps_expr (pe_bm PySem.F.plainAttrs_list PySem.F.slot_list_append PySem.F.type_list_append mt_append (pv 5) (pa_cons (pe_go cSp hr (by decide) rfl (pa_cons (pv 1) (pa_cons (pv 4) pa_nil))) pa_nil)))
 (pss_one (ps_expr (pe_bm PySem.F.plainAttrs_list PySem.F.slot_list_append PySem.F.type_list_append mt_append (pv 5) (pa_cons (pe_go cSp hr (by decide) rfl (pa_cons (pv 1) (pa_cons (pe_ix ix_list (pv 5) (pe_un un_neg pe_int) (fun _ _ => rfl)) pa_nil))) pa_nil)))))))
 (pss_one (ps_for PassesOwn.never rfl (pi_list (pe_op op_cat (pv 5) (pe_lst (pa_cons (pe_go cAny hr (by decide) rfl (pa_cons (pv 1) (pa_cons pe_int pa_nil))) pa_nil)))) (pg_name (i := 7) scLaw.nd rfl (.inl rfl))
 (pss_cons (ps_if (pt_not (pt_val (pe_go cLk hr (by decide) rfl (pa_cons (pe_go cIp hr (by decide) rfl (pa_cons (pv 7) pa_nil)) (pa_cons (pe_go cLp hr (by decide) rfl (pa_cons (pv 7) pa_nil)) pa_nil))))) (pss_one (ps_ret pe_bl)) pss_nil)
 (pss_one (ps_if (pt_not (pt_val (pe_go cLk hr (by decide) rfl (pa_cons (pe_go cAw hr (by decide) rfl (pa_cons (pv 7) pa_nil)) (pa_cons (pe_go cLw hr (by decide) rfl (pa_cons (pv 7) pa_nil)) pa_nil))))) (pss_one (ps_ret pe_bl)) pss_nil)))))))))))))
 (pss_one (ps_ret pe_bl)))), ?_⟩
  refine ⟨_, rfl, a, _, rfl, .inl hS, fun S hS0 => ⟨(by show 3 ≤ sizeLine; decide), fun T hT0 => ?_⟩⟩
  have tp0 : Tape (upd (upd H S (.lst (ns.map V.int))) T (.lst [.ref S, .int 0, .int 0])) T S ns := ⟨⟨0, 0, upd_same⟩, by rw [upd_ne (ne_of_none upd_same hT0)]; exact upd_same⟩
  have tg1 := (tg0.same (same_new hS0 (.lst (ns.map V.int)))).same (same_new hT0 (.lst [.ref S, .int 0, .int 0]))
  generalize upd (upd H S (.lst (ns.map V.int))) T (.lst [.ref S, .int 0, .int 0]) = H0 at tp0 tg1 ⊢
  refine ⟨4, rfl, by decide, by decide, for_range (lo := 0) (n := 4) (fun i σ H' => ∃ y2 y3 y4 y5 y6 y7 : Option V, σ = [some (.ref a), some (.ref T), y2, y3, y4, y5, y6, y7, none] ∧ Tape H' T S ns ∧ Tabs H' Ps)
    ⟨none, none, none, none, none, none, rfl, tp0, tg1⟩ ?_ ?_⟩
  · rintro i σ H1 hi ⟨y2, y3, y4, y5, y6, y7, rfl, tp1, tg1⟩
    refine ⟨fun σ H' => ∃ (p W : Addr) (bs : List Str) (ws : List (Str × Nat)), σ = [some (.ref a), some (.ref T), some (.int (0 + (i : Int))), some (.ref p), some (.ref W), y5, y6, y7, none] ∧ Tape H' T S ns ∧ Tabs H' Ps ∧ Dp K (cutH H' [T]) (.ref p) (.tuple (bs.map PyData.str)) ∧ IsPile bs ∧ Dp K (cutH H' [T]) (.ref W) (.tuple (ws.map pairT)) ∧ IsWants 5 7 ws, ?_, ?_⟩
    · refine ⟨_, rfl, T, S, ns, 7, rfl, tp1, by decide, by decide, fun p H2 bs sm2 tp2 np hp bsOk ble => ?_⟩
      refine ⟨_, rfl, T, S, ns, 5, 7, rfl, tp2, by decide, by decide, by decide, by decide, fun W H3 ws sm3 tp3 nW hW wOk => ?_⟩
      obtain ⟨_, _, t1⟩ := tp1.at_
      obtain ⟨_, _, t2⟩ := tp2.at_
      obtain ⟨_, _, t3⟩ := tp3.at_
      obtain ⟨ts, hW1, wl⟩ := hW
      have dP : Dp K (cutH H2 [T]) (.ref p) (.tuple (bs.map PyData.str)) := .tup (tp_cut t2 hp).sqt (dpAll_strs bs)
      exact ⟨_, _, rfl, p, W, bs, ws, rfl, tp3, (tg1.but sm2 ⟨_, t1⟩).but sm3 ⟨_, t2⟩, dp_same (cutH_sameT (by simp) sm3) dP, bsOk, .tup (tp_cut t3 hW1).sqt (dpAll_wl (wl_cut t3 wl)), wOk⟩
    rintro σ H2 ⟨p, W, bs, ws, rfl, tp2, tg2, dP, bsOk, dW, wOk⟩
    have tk2 : Taken H2 [T] := fun b hb => by
      rw [List.mem_singleton.mp hb]
      exact tp2.tak
    have bB := fun n => bd_txt (bs := bs) bsOk.ok (n := n)
    have wsl : ws.length ≤ 5 := by
      have z := wOk.sub.length_le
      rw [List.length_map, List.length_take] at z
      omega
    have wB := fun n => bd_want (ws := ws) (fun p hp => List.mem_of_mem_take (wOk.sub.subset (List.mem_map_of_mem hp))) (n := n)
    have lB : (bs.map PyData.str).length ≤ 7 := by rw [List.length_map]; exact bsOk.most
    have lW : (ws.map pairT).length ≤ 5 := by rw [List.length_map]; exact wsl
    generalize bs.map PyData.str = pd at dP bB lB
    generalize ws.map pairT = wd at dW wB lW
    have up : ∀ {n : Nat} {x : PyData}, n ≤ 7 → Bd n 20 x → Bd 7 36 x := fun hn h => h.mono hn (by decide)
    have tupB : ∀ {ds : List PyData}, ds.length ≤ 36 → (∀ x ∈ ds, Bd 7 36 x) → Bd 8 36 (.tuple ds) := fun h k => ⟨h, k⟩
    have lstB : ∀ {ds : List PyData}, ds.length ≤ 36 → (∀ x ∈ ds, Bd 7 36 x) → Bd 8 36 (.list ds) := fun h k => ⟨h, k⟩
    have bP : Bd 2 20 (.tuple pd) := ⟨by omega, bB 1⟩
    have bW : Bd 2 20 (.tuple wd) := ⟨by omega, wB 0⟩
    have pB : ∀ x ∈ pd, Bd 7 36 x := fun x hx => up (by decide) (bB 0 x hx)
    have qB : ∀ x ∈ wd, Bd 7 36 x := fun x hx => up (by decide) (wB 0 x hx)
    refine un_seq (un_asg (go_lst (T := T) (ds := [.tuple pd, .list pd, .tuple (pd ++ pd.take 1), .tuple pd.reverse, .tuple [], .tuple (books.map PyData.str), .tuple (books.map PyData.str ++ [.str "x"])])
      (mkCons (mkVar rfl dP) (mkCons (mkListOf (mkVar rfl dP) (.inl rfl)) (mkCons (mkCat (mkVar rfl dP) (mkTake (j := 1) (mkVar rfl dP)) ?_) (mkCons (mkRev (mkVar rfl dP)) (mkCons (mkTup mkNil (by decide)) (mkCons (mkTupOf mkBooks) (mkCons (mkCat (mkTupOf mkBooks) (mkTup (mkCons (mkC fun _ => .str _) mkNil) (by decide)) (by decide)) mkNil))))))) tk2 (by show 7 ≤ 100; decide) ?_ fun L vs H3 n3 s3 c3 th3 => ?_))
    · rw [List.length_take]
      omega
    · intro d hd
      simp only [List.mem_cons, List.not_mem_nil, or_false] at hd
      rcases hd with rfl | rfl | rfl | rfl | rfl | rfl | rfl
      · exact tupB (by omega) pB
      · exact lstB (by omega) pB
      · refine tupB (by rw [List.length_append, List.length_take]; omega) fun x hx => ?_
        rcases List.mem_append.mp hx with hx | hx
        · exact pB x hx
        · exact pB x (List.mem_of_mem_take hx)
      · exact tupB (by rw [List.length_reverse]; omega) fun x hx => pB x (List.mem_reverse.mp hx)
      · exact chk_ok (by decide +kernel)
      · exact chk_ok (by decide +kernel)
      · exact chk_ok (by decide +kernel)
    have dP3 := dp_same (cutH_same s3) dP
    have dW3 := dp_same (cutH_same s3) dW
    have tk3 := tk2.same s3
    refine un_seq (un_asg (go_cat (T := T) (es := [.tuple wd, .tuple wd.reverse, .list wd, .tuple (wd ++ wd.take 1), .tuple [.tuple [.str "a", .int 4], .tuple [.str "b", .int 4]]]) rfl th3
      (mkCons (mkVar rfl dW3) (mkCons (mkRev (mkVar rfl dW3)) (mkCons (mkListOf (mkVar rfl dW3) (.inl rfl)) (mkCons (mkCat (mkVar rfl dW3) (mkTake (j := 1) (mkVar rfl dW3)) ?_) (mkCons (mkTup (mkCons (mkTup (mkCons (mkC fun _ => .str _) (mkCons (mkC fun _ => .int _) mkNil)) (by decide)) (mkCons (mkTup (mkCons (mkC fun _ => .str _) (mkCons (mkC fun _ => .int _) mkNil)) (by decide)) mkNil)) (by decide)) mkNil))))) tk3 (by show 7 + 5 ≤ 100; decide) ?_ fun L4 vs4 H4 n4 s4 c4 th4 => ?_))
    · rw [List.length_take]
      omega
    · intro d hd
      simp only [List.mem_cons, List.not_mem_nil, or_false] at hd
      rcases hd with rfl | rfl | rfl | rfl | rfl
      · exact tupB (by omega) qB
      · exact tupB (by rw [List.length_reverse]; omega) fun x hx => qB x (List.mem_reverse.mp hx)
      · exact lstB (by omega) qB
      · refine tupB (by rw [List.length_append, List.length_take]; omega) fun x hx => ?_
        rcases List.mem_append.mp hx with hx | hx
        · exact qB x hx
        · exact qB x (List.mem_of_mem_take hx)
      · exact chk_ok (by decide +kernel)
    obtain ⟨ds4, l4, k4⟩ : ∃ ds4, ds4.length = 12 ∧ Wk K T S p W ns Ps pd wd H4 L4 vs4 ds4 := ⟨_, rfl, tp2.same (s3.trans s4), tg2.same (s3.trans s4), th4, dp_same c4 dP3, dp_same c4 dW3, ne_of_none (s3 _ _ tp2.scr) n4⟩
    clear th4 c4 s4 n4 dP3 dW3 th3 c3 s3 n3 dP dW tp2 tg2 tk2 tk3
    refine un_seq ⟨_, rfl, .inl ⟨rfl, _, sql k4.th.at_⟩, ?_⟩
    refine MkA.go (K := K) (AV := [L4, T]) (ds := [.tuple [.tuple [.str "a", .int 4], .tuple [.str "b", .int 3]]]) (mkCons (mkTup (mkCons mkPr (mkCons mkPr mkNil)) (by decide)) mkNil) k4.tak fun us H5 s5 t5 da5 => ?_
    obtain ⟨v5, rfl, dv5⟩ := one_of da5
    have k5 := k4.same s5
    refine ⟨L4, vs4, v5, rfl, rfl, k5.th.at_, k5.len, ?_⟩
    have k6 := k5.app dv5 (by omega) (chk_ok (by decide +kernel))
    have l6 : (ds4 ++ [PyData.tuple [.tuple [.str "a", .int 4], .tuple [.str "b", .int 3]]]).length = 13 := by
      rw [List.length_append, l4]
      rfl
    generalize ds4 ++ [PyData.tuple [.tuple [.str "a", .int 4], .tuple [.str "b", .int 3]]] = ds6 at k6 l6
    generalize upd H5 L4 (.lst (vs4 ++ [v5])) = H6 at k6 ⊢
    generalize vs4 ++ [v5] = vs6 at k6
    refine ⟨fun σ H' => ∃ (L : Addr) (vs : List V) (ds : List PyData), σ = [some (.ref a), some (.ref T), some (.int (0 + (i : Int))), some (.ref p), some (.ref W), some (.ref L), y6, y7, none] ∧ ds.length = 18 ∧ Wk K T S p W ns Ps pd wd H' L vs ds, ?_, ?_⟩
    · have dP6 := dp_same (cutH_less (A := [T]) (B := [L4, T]) fun b hb => List.mem_cons_of_mem _ hb) k6.dP
      have dW6 := dp_same (cutH_less (A := [T]) (B := [L4, T]) fun b hb => List.mem_cons_of_mem _ hb) k6.dW
      refine un_asg (go_cat (T := T) (es := [.tuple [.tuple [.str "a", .int 5]], .tuple [.tuple [.str "a", .int 0]], .tuple [.tuple [.str "a", .bool true]], .tuple [.tuple [.str "a", .int 1], .tuple [.str "b"]], .tuple [.str "a", .str "A"]]) rfl k6.th
        (mkCons (mkTup (mkCons mkPr mkNil) (by decide)) (mkCons (mkTup (mkCons mkPr mkNil) (by decide)) (mkCons (mkTup (mkCons (mkTup (mkCons (mkC fun _ => .str _) (mkCons (mkC fun _ => .bl _) mkNil)) (by decide)) mkNil) (by decide)) (mkCons (mkTup (mkCons mkPr (mkCons (mkTup (mkCons (mkC fun _ => .str _) mkNil) (by decide)) mkNil)) (by decide)) (mkCons (mkTup (mkCons (mkC fun _ => .str _) (mkCons (mkC fun _ => .str _) mkNil)) (by decide)) mkNil))))) k6.tak1 (by rw [l6]; decide) ?_ fun L7 vs7 H7 n7 s7 c7 th7 => ?_)
      · intro d hd
        simp only [List.mem_cons, List.not_mem_nil, or_false] at hd
        rcases hd with rfl | rfl | rfl | rfl | rfl <;> exact chk_ok (by decide +kernel)
      exact ⟨L7, vs7, _, rfl, by rw [List.length_append, l6]; rfl, k6.tp.same s7, k6.tg.same s7, th7, dp_same c7 dP6, dp_same c7 dW6, ne_of_none k6.tp.scr n7⟩
    rintro σ H7 ⟨L, vs, ds, rfl, l7, k7⟩
    clear k6 k5 k4
    refine ⟨fun σ H' => ∃ (vs : List V) (ds : List PyData), σ = [some (.ref a), some (.ref T), some (.int (0 + (i : Int))), some (.ref p), some (.ref W), some (.ref L), y6, y7, none] ∧ ds.length = 19 ∧ Wk K T S p W ns Ps pd wd H' L vs ds, ?_, ?_⟩
    · refine ⟨_, rfl, .inl ⟨rfl, _, sql k7.th.at_⟩, rfl, fun b1 hb1 => ⟨6, rfl, b1, _, rfl, sql upd_same, fun b2 hb2 => ?_⟩⟩
      have e6 : cutV (books.map V.str) none (some 6) = (books.take 6).map V.str := by
        have z := cut_take (books.map V.str) 6
        rw [← List.map_take] at z
        exact z
      rw [e6]
      have s8 := (same_new hb1 (.lst (books.map V.str))).trans (same_new hb2 (.lst ((books.take 6).map V.str)))
      have hb3 : upd (upd H7 b1 (.lst (books.map V.str))) b2 (.lst ((books.take 6).map V.str)) b2 = some (.lst ((books.take 6).map V.str)) := upd_same
      generalize upd (upd H7 b1 (.lst (books.map V.str))) b2 (.lst ((books.take 6).map V.str)) = H8 at s8 hb3 ⊢
      have k8 := k7.same s8
      refine ⟨b2, rfl, ⟨_, sql hb3⟩, fun D hD => lc_list (K := K) (a := b2) (xs := (books.take 6).map V.str)
        (fun j H' => ∃ (us : List V) (es : List PyData), Same H8 H' ∧ H' D = some (.lst us) ∧ us.length = j ∧ DpAll K (cutH H' [D, L, T]) us es ∧ ∀ x ∈ es, Bd 1 36 x)
        ⟨[], [], same_new hD _, upd_same, rfl, .nil, fun x hx => nomatch hx⟩ (fun j H' _ ⟨_, _, s', _⟩ => sql (s' _ _ hb3)) ?_ ?_⟩
      · rintro j x H9 hx ⟨us, es, s9, hD9, lu, da, bd⟩
        obtain ⟨z, ez, rfl⟩ : ∃ z, (books.take 6)[j]? = some z ∧ x = .str z := by
          rw [List.getElem?_map] at hx
          cases e : (books.take 6)[j]? with
          | none => rw [e] at hx; cases hx
          | some z => rw [e] at hx; cases hx; exact ⟨z, rfl, rfl⟩
        have jl : j < 6 := by
          have w := (List.getElem?_eq_some_iff.mp ez).1
          exact w
        have zb := book_ok z (List.mem_of_mem_take (List.mem_of_getElem? ez))
        refine ⟨rfl, _, rfl, (by show 2 ≤ sizeLine; decide), fun t ht => ?_⟩
        have s10 := same_new ht (.tup [.str z, .int 1])
        have t9 : Taken H9 [D, L, T] := ((k8.tak.same s9)).cons (by rw [hD9]; exact fun z => nomatch z)
        refine ⟨us, s10 _ _ hD9, small1000 (by omega), us ++ [.ref t], es ++ [.tuple [.str z, .int 1]], ?_, upd_same, by rw [List.length_append, lu]; rfl, ?_, ?_⟩
        · exact same_put (s9.trans s10) hD
        · rw [cutH_put (by simp)]
          exact dpAll_snoc (dpAll_same (cutH_same s10) da) (.tup (sqt (by rw [cutH_out (t9.new ht)]; exact upd_same)) (.cons (.str _) (.cons (.int _) .nil)))
        · intro y hy
          rcases List.mem_append.mp hy with hy | hy
          · exact bd y hy
          · rw [List.mem_singleton.mp hy]
            refine ⟨by show 2 ≤ 36; decide, fun e he => ?_⟩
            rcases List.mem_cons.mp he with e1 | he
            · rw [e1]
              exact Bd.str (by omega) zb.2
            · rw [List.mem_singleton.mp he]
              exact Bd.int _ _ _
      · rintro H9 ⟨us, es, s9, hD9, lu, da, bd⟩
        have l6 : us.length = 6 := lu
        refine ⟨D, us, rfl, sql hD9, fun t u ht hu => ?_⟩
        have s10 := same_new ht u
        have k10 := k8.same (s9.trans s10)
        refine ⟨L, vs, .ref t, rfl, rfl, k10.th.at_, k10.len, ?_⟩
        have t9 := k8.tak.same s9
        have da10 : DpAll K (cutH (upd H9 t u) [L, T]) us es := dpAll_same ((cutH_less (A := [L, T]) (B := [D, L, T]) fun b hb => List.mem_cons_of_mem _ hb).trans (cutH_same s10)) da
        have le := dpAll_len da
        exact ⟨_, _, rfl, by rw [List.length_append, l7]; rfl, k10.app (d := .tuple es) (.tup (TpO.sqt ⟨u, by rw [cutH_out (t9.new ht)]; exact upd_same, hu⟩) da10) (by omega) ⟨by omega, fun x hx => (bd x hx).mono (by decide) (by decide)⟩⟩
    rintro σ H8 ⟨vs8, ds8, rfl, l8, k8⟩
    clear k7
    refine ⟨fun σ H' => ∃ (y6 : Option V) (vs : List V) (ds : List PyData), σ = [some (.ref a), some (.ref T), some (.int (0 + (i : Int))), some (.ref p), some (.ref W), some (.ref L), y6, y7, none] ∧ ds.length = 43 ∧ Wk K T S p W ns Ps pd wd H' L vs ds, ?_, ?_⟩
    · refine ⟨8, rfl, by decide, by decide, for_range (lo := 0) (n := 8) (fun j σ H' => ∃ (y6 : Option V) (vs : List V) (ds : List PyData), σ = [some (.ref a), some (.ref T), some (.int (0 + (i : Int))), some (.ref p), some (.ref W), some (.ref L), y6, y7, none] ∧ ds.length = 19 + 3 * j ∧ Wk K T S p W ns Ps pd wd H' L vs ds)
        ⟨y6, vs8, ds8, rfl, l8, k8⟩ ?_ ?_⟩
      · rintro j σ H9 hj ⟨y6, vs, ds, rfl, l9, k9⟩
        refine ⟨_, rfl, .inl ⟨rfl, _, sql k9.th.at_⟩, _, rfl, _, rfl, T, S, ns, .ref p, .tuple pd, [L, T], 2, 20, rfl, k9.tp, by simp, k9.tak, k9.dP, bP, by decide, by decide, fun v1 d1 H10 sm1 tp1 dv1 bv1 => ?_⟩
        have k10 := k9.sameT sm1 tp1
        refine ⟨L, vs, v1, rfl, rfl, k10.th.at_, k10.len, ?_⟩
        have k11 := k10.app dv1 (by omega) (bv1.mono (by decide) (by decide))
        have l11 : (ds ++ [d1]).length = 19 + 3 * j + 1 := by rw [List.length_append, l9]; rfl
        generalize ds ++ [d1] = ds1 at k11 l11
        generalize upd H10 L (.lst (vs ++ [v1])) = H11 at k11 ⊢
        generalize vs ++ [v1] = vs1 at k11
        refine ⟨_, rfl, .inl ⟨rfl, _, sql k11.th.at_⟩, _, rfl, _, rfl, T, S, ns, .ref W, .tuple wd, [L, T], 2, 20, rfl, k11.tp, by simp, k11.tak, k11.dW, bW, by decide, by decide, fun v2 d2 H12 sm2 tp2 dv2 bv2 => ?_⟩
        have k12 := k11.sameT sm2 tp2
        refine ⟨L, vs1, v2, rfl, rfl, k12.th.at_, k12.len, ?_⟩
        have k13 := k12.app dv2 (by omega) (bv2.mono (by decide) (by decide))
        have dv3 : Dp K (cutH (upd H12 L (.lst (vs1 ++ [v2]))) [L, T]) v2 d2 := by
          rw [cutH_put (by simp)]
          exact dv2
        have l13 : (ds1 ++ [d2]).length = 19 + 3 * j + 2 := by rw [List.length_append, l11]; rfl
        generalize ds1 ++ [d2] = ds2 at k13 l13
        generalize upd H12 L (.lst (vs1 ++ [v2])) = H13 at k13 dv3 ⊢
        refine ⟨_, rfl, .inl ⟨rfl, _, sql k13.th.at_⟩, _, rfl, _, rfl, _, rfl, L, _, -1, v2, rfl, rfl, sql k13.th.at_, atI_last vs1 v2, T, S, ns, v2, d2, [L, T], 5, 28, rfl, k13.tp, by simp, k13.tak, dv3, bv2, by decide, by decide, fun v3 d3 H14 sm3 tp3 dv4 bv3 => ?_⟩
        have k14 := k13.sameT sm3 tp3
        refine ⟨L, _, v3, rfl, rfl, k14.th.at_, k14.len, ?_⟩
        exact ⟨_, _, _, rfl, by rw [List.length_append, l13]; show _ + 1 = _; omega, k14.app dv4 (by omega) (bv3.mono (by decide) (by decide))⟩
      · rintro σ H9 ⟨y6, vs, ds, rfl, l9, k9⟩
        exact ⟨y6, vs, ds, rfl, l9, k9⟩
    rintro σ H9 ⟨y6, vs, ds, rfl, l9, k9⟩
    clear k8
    refine ⟨_, rfl, _, rfl, T, S, ns, 3, [L, T], rfl, k9.tp, by simp, k9.tak, by decide, by decide, fun v d H10 sm10 tp10 dv bv => ⟨(by show 1 ≤ sizeLine; decide), fun M hM => ?_⟩⟩
    have k10 := k9.sameT sm10 tp10
    have s11 := same_new hM (.lst [v])
    have k11 := k10.same s11
    have lv := dpAll_len k11.th.all
    refine ⟨L, M, vs, [v], rfl, rfl, k11.th.at_, upd_same, Nat.le_of_lt (small1000 (by show vs.length + 1 ≤ 1000; omega)), fun N hN => ?_⟩
    have s12 := same_new hN (.lst (vs ++ [v]))
    have k12 := k11.same s12
    have hN12 : upd (upd H10 M (.lst [v])) N (.lst (vs ++ [v])) N = some (.lst (vs ++ [v])) := upd_same
    have da : DpAll K (upd (upd H10 M (.lst [v])) N (.lst (vs ++ [v]))) (vs ++ [v]) (ds ++ [d]) := dpAll_snoc (dpAll_same (cutH_sub _ _) k12.th.all) (dp_same ((cutH_sub _ _).trans (s11.trans s12)) dv)
    have bds : ∀ x ∈ ds ++ [d], Bd 8 36 x := fun x hx => by
      rcases List.mem_append.mp hx with hx | hx
      · exact k9.th.bd x hx
      · rw [List.mem_singleton.mp hx]
        exact bv.mono (by decide) (by decide)
    generalize upd (upd H10 M (.lst [v])) N (.lst (vs ++ [v])) = H12 at k12 hN12 da ⊢
    generalize ds ++ [d] = es at da bds
    generalize vs ++ [v] = us at da hN12
    have txt1 : ∀ x ∈ es, ∀ cs, x = .tuple cs → ∀ z, .str z ∈ cs → z.length ≤ 1000 ∧ PyData.strOk z = true := fun x hx cs e z hz => by
      have b1 := bds x hx
      rw [e] at b1
      have b2 := Bd.txt (b1.2 _ hz)
      exact ⟨by omega, b2.2⟩
    have txt2 : ∀ x ∈ es, ∀ cs, x = .tuple cs → ∀ fs, .tuple fs ∈ cs → ∀ z, .str z ∈ fs → z.length ≤ 1000 ∧ PyData.strOk z = true := fun x hx cs e fs hf z hz => by
      have b1 := bds x hx
      rw [e] at b1
      have b2 := b1.2 _ hf
      have b3 := Bd.txt (b2.2 _ hz)
      exact ⟨by omega, b3.2⟩
    refine ⟨N, rfl, ⟨_, sql hN12⟩, for_list (K := K) (a := N) (xs := us) (fun j σ H' => ∃ y7 : Option V, σ = [some (.ref a), some (.ref T), some (.int (0 + (i : Int))), some (.ref p), some (.ref W), some (.ref L), y6, y7, none] ∧ SameN H12 H' ∧ Tabs H' Ps)
      ⟨y7, rfl, SameN.refl _, k12.tg⟩ (fun j σ H' _ ⟨_, _, n', _⟩ => sql (n'.lstH hN12)) ?_ ?_⟩
    · rintro j x σ H13 hx ⟨y7, rfl, n13, tg13⟩
      obtain ⟨e, ee, dpe⟩ := dpAll_get da hx
      have me := List.mem_of_getElem? ee
      have dp13 := dp_sameN n13 dpe
      refine ⟨_, rfl, x, e, rfl, dp13, fun cs h z hz => (txt1 e me cs h z hz).1, tg13, fun H14 n14 tg14 => ?_⟩
      have n14' := n13.trans n14
      refine ⟨_, rfl, x, e, rfl, dp_sameN n14' dpe, txt1 e me, fun H15 s15 => ?_⟩
      refine ⟨_, _, .bool (pileD e), 0, rfl, rfl, .bl _, .bl _, trivial, fun H16 s16 => ⟨true, rfl, ?_⟩⟩
      have n16 := n14'.trans (SameN.of (s15.trans s16))
      have tg16 := tg14.same (s15.trans s16)
      refine ⟨_, rfl, x, e, rfl, dp_sameN n16 dpe, fun cs h fs hf z hz => (txt2 e me cs h fs hf z hz).1, tg16, fun H17 n17 tg17 => ?_⟩
      have n17' := n16.trans n17
      refine ⟨_, rfl, x, e, rfl, dp_sameN n17' dpe, txt2 e me, fun H18 s18 => ?_⟩
      refine ⟨_, _, .bool (wantsD e), 0, rfl, rfl, .bl _, .bl _, trivial, fun H19 s19 => ⟨true, rfl, ?_⟩⟩
      exact ⟨_, rfl, n17'.trans (SameN.of (s18.trans s19)), tg17.same (s18.trans s19)⟩
    · rintro σ H13 ⟨y7, rfl, n13, tg13⟩
      exact ⟨_, _, _, _, _, _, rfl, k12.tp.sameN n13, tg13⟩
  · rintro σ H1 _
    exact q _
end
end Lt

set_option Elab.async false
set_option linter.all false
set_option maxRecDepth 100000
set_option maxHeartbeats 0
namespace Lt
open PySem PySem.Spec PyProof.Rows L2
def dd0 : He.DefD := ⟨("is_name", none), "is_name", "is_name", defArgs sIsName, defBody sIsName, defScope sIsName, [], []⟩
def dd1 : He.DefD := ⟨("is_whole_number", none), "is_whole_number", "is_whole_number", defArgs sWhole, defBody sWhole, defScope sWhole, [], []⟩
def dd2 : He.DefD := ⟨("is_pile", none), "is_pile", "is_pile", defArgs sIsPile, defBody sIsPile, defScope sIsPile, [], []⟩
def dd3 : He.DefD := ⟨("are_wants", none), "are_wants", "are_wants", defArgs sAreWants, defBody sAreWants, defScope sAreWants, [], []⟩
def dd4 : He.DefD := ⟨("is_want", none), "is_want", "is_want", defArgs sIsWant, defBody sIsWant, defScope sIsWant, [], []⟩
def dd5 : He.DefD := ⟨("books_rise", none), "books_rise", "books_rise", defArgs sRise, defBody sRise, defScope sRise, [], []⟩
def dd6 : He.DefD := ⟨("_law_draw", none), "_law_draw", "_law_draw", defArgs sDraw, defBody sDraw, defScope sDraw, [], []⟩
def dd7 : He.DefD := ⟨("_law_whole", none), "_law_whole", "_law_whole", defArgs sLWhole, defBody sLWhole, defScope sLWhole, [], []⟩
def dd8 : He.DefD := ⟨("_law_within", none), "_law_within", "_law_within", defArgs sWithin, defBody sWithin, defScope sWithin, [], []⟩
def dd9 : He.DefD := ⟨("_law_like", none), "_law_like", "_law_like", defArgs sLike, defBody sLike, defScope sLike, [], []⟩
def dd10 : He.DefD := ⟨("_law_any_order", none), "_law_any_order", "_law_any_order", defArgs sOrder, defBody sOrder, defScope sOrder, [], []⟩
def dd11 : He.DefD := ⟨("_law_spoilt", none), "_law_spoilt", "_law_spoilt", defArgs sSpoilt, defBody sSpoilt, defScope sSpoilt, [], []⟩
def dd12 : He.DefD := ⟨("_law_rises", none), "_law_rises", "_law_rises", defArgs sRises, defBody sRises, defScope sRises, [], []⟩
def dd13 : He.DefD := ⟨("_law_is_name", none), "_law_is_name", "_law_is_name", defArgs sLName, defBody sLName, defScope sLName, [], []⟩
def dd14 : He.DefD := ⟨("_law_any", none), "_law_any", "_law_any", defArgs sAny, defBody sAny, defScope sAny, [], []⟩
def dd15 : He.DefD := ⟨("_law_books", none), "_law_books", "_law_books", defArgs sBooks, defBody sBooks, defScope sBooks, [], []⟩
def dd16 : He.DefD := ⟨("_law_pile", none), "_law_pile", "_law_pile", defArgs sPile, defBody sPile, defScope sPile, [], []⟩
def dd17 : He.DefD := ⟨("_law_wants", none), "_law_wants", "_law_wants", defArgs sWants, defBody sWants, defScope sWants, [], []⟩
def dd18 : He.DefD := ⟨("_law_is_pile", none), "_law_is_pile", "_law_is_pile", defArgs sLPile, defBody sLPile, defScope sLPile, [], []⟩
def dd19 : He.DefD := ⟨("_law_are_wants", none), "_law_are_wants", "_law_are_wants", defArgs sLWants, defBody sLWants, defScope sLWants, [], []⟩
def dd20 : He.DefD := ⟨("law", none), "law", "law", defArgs sLaw, defBody sLaw, defScope sLaw, [], []⟩
def defsAt : List He.DefD := [dd0, dd1, dd2, dd3, dd4, dd5, dd6, dd7, dd8, dd9, dd10, dd11, dd12, dd13, dd14, dd15, dd16, dd17, dd18, dd19, dd20]
def factsAt : List He.Fa := [.glo "is_name", .glo "is_whole_number", .glo "is_pile", .glo "are_wants", .glo "is_want", .glo "books_rise", .glo "_law_draw", .glo "_law_whole", .glo "_law_within", .glo "_law_like", .glo "_law_any_order", .glo "_law_spoilt", .glo "_law_rises", .glo "_law_is_name", .glo "_law_any", .glo "_law_books", .glo "_law_pile", .glo "_law_wants", .glo "_law_is_pile", .glo "_law_are_wants", .glo "law", .free "len", .free "range", .free "tuple", .free "list", .free "sorted", .free "enumerate", .free "isinstance", .free "bool", .free "set", .free "sum", .free "min", .free "max", .free "dict", .free "reversed", .free "all", .free "any", .free "int", .free "str", .free "zip", .int "LONGEST_NAME" 8, .int "MOST_BOOKS" 7, .int "MOST_WANTED_BOOKS" 5, .int "MOST_READERS_OF_ONE" 4, .int "MOST_READERS" 7]
def tab0 : He.Defn := ("is_name", none)
def tab1 : He.Defn := ("is_pile", none)
def tab2 : He.Defn := ("are_wants", none)
def tabsAt : List He.Defn := [tab0, tab1, tab2]
abbrev rowX : PySem.W.OpenRow := PySem.W.OpenLaw.row PySem.Challenge.rw_laidontop_k01_piles_and_wants_known
abbrev hookAt : PySem.W.Hook := He.hookX 4 factsAt defsAt [] tabsAt fun _ => true
def seenAt (s : PySem.W.SharedT) : He.AlX := He.obsX 4 factsAt defsAt [] tabsAt (fun _ => true) (HandSHeadRun.getT s)
theorem seenAt_eq (s : PySem.W.SharedT) : seenAt s = hookAt.obs s.abs := He.obsX_eq (HandSHeadRun.getT_eq s)
def namesAt : List Str := [("LONGEST_NAME" : Str), ("is_name" : Str), ("is_whole_number" : Str), ("MOST_BOOKS" : Str), ("is_pile" : Str), ("MOST_WANTED_BOOKS" : Str), ("MOST_READERS_OF_ONE" : Str), ("MOST_READERS" : Str), ("are_wants" : Str), ("is_want" : Str), ("books_rise" : Str), ("_law_draw" : Str), ("_law_whole" : Str), ("_law_within" : Str), ("_law_like" : Str), ("_law_any_order" : Str), ("_law_spoilt" : Str), ("_law_rises" : Str), ("_law_is_name" : Str), ("_law_any" : Str), ("_law_books" : Str), ("_law_pile" : Str), ("_law_wants" : Str), ("_law_is_pile" : Str), ("_law_are_wants" : Str)]
theorem runAt (w : World) : HandSHeadRun.RunEq rowX (PySem.W.view rowX.prog [29]) hookAt seenAt 4000 namesAt w := by
  intro os
  kernel_rfl
theorem tabs_nil {H : Hp} : Tabs H [] := fun P h => nomatch h
theorem tabs_cons {H : Hp} {A : Addr} {Ps : List Addr} (a : GxR.TabG H A) (b : Tabs H Ps) : Tabs H (A :: Ps) := fun P h => by
  rcases List.mem_cons.mp h with e | h
  · rw [e]
    exact a
  · exact b P h
theorem fun_of {K : PySem.W.Frag} {x y : Str} {st : Stmt} {f : Addr} {fd : FuncData} (F : FunD K x y (defArgs st) (defBody st) (defScope st) [] [] f fd) : Fun K x y st f fd := by
  obtain ⟨oc, od, dV, kV, doc, pm, an, cdv, ct, sl, e, lk, cd, dfl, _⟩ := F.ex
  rcases dfl with ⟨_, rfl⟩ | ⟨no, _⟩
  · exact ⟨⟨oc, od, kV, doc, pm, an, cdv, ct, sl, e, lk, cd⟩, F.kp⟩
  · exact absurd rfl no
theorem code_at {K : PySem.W.Frag} {x y : Str} {st : Stmt} {p : He.Defn} {fd : FuncData} (F : Fun K x y st (He.fAd K p) fd) : fd.code = .ref (He.cT K p).1 := by
  obtain ⟨oc, od, kV, doc, pm, an, cdv, ct, sl, rfl, lk, cd⟩ := F.ex
  obtain ⟨c, rfl⟩ := He.codeIn_ref cd
  have e := He.codeOf_eq (c := c) lk rfl
  show Value.ref c = .ref (He.codeOf K p)
  rw [e]
theorem lawAt {w : World} {K : PySem.W.Frag} {h : Heap} {mg : Str → Option Value} {fa : Addr} (X : K.In h) (G : h.Ns mainGlobals mg) (hfa : mg ("law" : Str) = some (.ref fa)) (c : He.SaysX factsAt defsAt [] tabsAt (fun _ => true) w h K) :
    LamX.LawAtS PySem.Challenge.rw_laidontop_k01_piles_and_wants_known w K CX0 11 63 "script" mg fa h := by
  have d := c.t.d
  obtain ⟨fd0, D0⟩ := d.def_ 0 (d := dd0) rfl
  have F0 : Fun K "is_name" "is_name" sIsName (He.fAd K ("is_name", none)) fd0 := fun_of D0
  have g0 : mg "is_name" = some (.ref (He.fAd K ("is_name", none))) := He.glo_ok X G (d.fact 0 (f := .glo "is_name") rfl)
  have b0 := F0.binds (ps := ["thing"]) fun _ _ _ _ _ _ us hl => match us, hl with | [_], _ => rfl
  obtain ⟨fd1, D1⟩ := d.def_ 1 (d := dd1) rfl
  have F1 : Fun K "is_whole_number" "is_whole_number" sWhole (He.fAd K ("is_whole_number", none)) fd1 := fun_of D1
  have g1 : mg "is_whole_number" = some (.ref (He.fAd K ("is_whole_number", none))) := He.glo_ok X G (d.fact 1 (f := .glo "is_whole_number") rfl)
  have b1 := F1.binds (ps := ["thing"]) fun _ _ _ _ _ _ us hl => match us, hl with | [_], _ => rfl
  obtain ⟨fd2, D2⟩ := d.def_ 2 (d := dd2) rfl
  have F2 : Fun K "is_pile" "is_pile" sIsPile (He.fAd K ("is_pile", none)) fd2 := fun_of D2
  have g2 : mg "is_pile" = some (.ref (He.fAd K ("is_pile", none))) := He.glo_ok X G (d.fact 2 (f := .glo "is_pile") rfl)
  have b2 := F2.binds (ps := ["thing"]) fun _ _ _ _ _ _ us hl => match us, hl with | [_], _ => rfl
  obtain ⟨fd3, D3⟩ := d.def_ 3 (d := dd3) rfl
  have F3 : Fun K "are_wants" "are_wants" sAreWants (He.fAd K ("are_wants", none)) fd3 := fun_of D3
  have g3 : mg "are_wants" = some (.ref (He.fAd K ("are_wants", none))) := He.glo_ok X G (d.fact 3 (f := .glo "are_wants") rfl)
  have b3 := F3.binds (ps := ["thing"]) fun _ _ _ _ _ _ us hl => match us, hl with | [_], _ => rfl
  obtain ⟨fd4, D4⟩ := d.def_ 4 (d := dd4) rfl
  have F4 : Fun K "is_want" "is_want" sIsWant (He.fAd K ("is_want", none)) fd4 := fun_of D4
  have g4 : mg "is_want" = some (.ref (He.fAd K ("is_want", none))) := He.glo_ok X G (d.fact 4 (f := .glo "is_want") rfl)
  have b4 := F4.binds (ps := ["thing"]) fun _ _ _ _ _ _ us hl => match us, hl with | [_], _ => rfl
  obtain ⟨fd5, D5⟩ := d.def_ 5 (d := dd5) rfl
  have F5 : Fun K "books_rise" "books_rise" sRise (He.fAd K ("books_rise", none)) fd5 := fun_of D5
  have g5 : mg "books_rise" = some (.ref (He.fAd K ("books_rise", none))) := He.glo_ok X G (d.fact 5 (f := .glo "books_rise") rfl)
  have b5 := F5.binds (ps := ["wants"]) fun _ _ _ _ _ _ us hl => match us, hl with | [_], _ => rfl
  obtain ⟨fd6, D6⟩ := d.def_ 6 (d := dd6) rfl
  have F6 : Fun K "_law_draw" "_law_draw" sDraw (He.fAd K ("_law_draw", none)) fd6 := fun_of D6
  have g6 : mg "_law_draw" = some (.ref (He.fAd K ("_law_draw", none))) := He.glo_ok X G (d.fact 6 (f := .glo "_law_draw") rfl)
  have b6 := F6.binds (ps := ["tape", "many"]) fun _ _ _ _ _ _ us hl => match us, hl with | [_, _], _ => rfl
  obtain ⟨fd7, D7⟩ := d.def_ 7 (d := dd7) rfl
  have F7 : Fun K "_law_whole" "_law_whole" sLWhole (He.fAd K ("_law_whole", none)) fd7 := fun_of D7
  have g7 : mg "_law_whole" = some (.ref (He.fAd K ("_law_whole", none))) := He.glo_ok X G (d.fact 7 (f := .glo "_law_whole") rfl)
  have b7 := F7.binds (ps := ["item"]) fun _ _ _ _ _ _ us hl => match us, hl with | [_], _ => rfl
  obtain ⟨fd8, D8⟩ := d.def_ 8 (d := dd8) rfl
  have F8 : Fun K "_law_within" "_law_within" sWithin (He.fAd K ("_law_within", none)) fd8 := fun_of D8
  have g8 : mg "_law_within" = some (.ref (He.fAd K ("_law_within", none))) := He.glo_ok X G (d.fact 8 (f := .glo "_law_within") rfl)
  have b8 := F8.binds (ps := ["item", "low", "high"]) fun _ _ _ _ _ _ us hl => match us, hl with | [_, _, _], _ => rfl
  obtain ⟨fd9, D9⟩ := d.def_ 9 (d := dd9) rfl
  have F9 : Fun K "_law_like" "_law_like" sLike (He.fAd K ("_law_like", none)) fd9 := fun_of D9
  have g9 : mg "_law_like" = some (.ref (He.fAd K ("_law_like", none))) := He.glo_ok X G (d.fact 9 (f := .glo "_law_like") rfl)
  have b9 := F9.binds (ps := ["one", "two"]) fun _ _ _ _ _ _ us hl => match us, hl with | [_, _], _ => rfl
  obtain ⟨fd10, D10⟩ := d.def_ 10 (d := dd10) rfl
  have F10 : Fun K "_law_any_order" "_law_any_order" sOrder (He.fAd K ("_law_any_order", none)) fd10 := fun_of D10
  have g10 : mg "_law_any_order" = some (.ref (He.fAd K ("_law_any_order", none))) := He.glo_ok X G (d.fact 10 (f := .glo "_law_any_order") rfl)
  have b10 := F10.binds (ps := ["tape", "many"]) fun _ _ _ _ _ _ us hl => match us, hl with | [_, _], _ => rfl
  obtain ⟨fd11, D11⟩ := d.def_ 11 (d := dd11) rfl
  have F11 : Fun K "_law_spoilt" "_law_spoilt" sSpoilt (He.fAd K ("_law_spoilt", none)) fd11 := fun_of D11
  have g11 : mg "_law_spoilt" = some (.ref (He.fAd K ("_law_spoilt", none))) := He.glo_ok X G (d.fact 11 (f := .glo "_law_spoilt") rfl)
  have b11 := F11.binds (ps := ["tape", "item"]) fun _ _ _ _ _ _ us hl => match us, hl with | [_, _], _ => rfl
  obtain ⟨fd12, D12⟩ := d.def_ 12 (d := dd12) rfl
  have F12 : Fun K "_law_rises" "_law_rises" sRises (He.fAd K ("_law_rises", none)) fd12 := fun_of D12
  have g12 : mg "_law_rises" = some (.ref (He.fAd K ("_law_rises", none))) := He.glo_ok X G (d.fact 12 (f := .glo "_law_rises") rfl)
  have b12 := F12.binds (ps := ["some"]) fun _ _ _ _ _ _ us hl => match us, hl with | [_], _ => rfl
  obtain ⟨fd13, D13⟩ := d.def_ 13 (d := dd13) rfl
  have F13 : Fun K "_law_is_name" "_law_is_name" sLName (He.fAd K ("_law_is_name", none)) fd13 := fun_of D13
  have g13 : mg "_law_is_name" = some (.ref (He.fAd K ("_law_is_name", none))) := He.glo_ok X G (d.fact 13 (f := .glo "_law_is_name") rfl)
  have b13 := F13.binds (ps := ["item"]) fun _ _ _ _ _ _ us hl => match us, hl with | [_], _ => rfl
  obtain ⟨fd14, D14⟩ := d.def_ 14 (d := dd14) rfl
  have F14 : Fun K "_law_any" "_law_any" sAny (He.fAd K ("_law_any", none)) fd14 := fun_of D14
  have g14 : mg "_law_any" = some (.ref (He.fAd K ("_law_any", none))) := He.glo_ok X G (d.fact 14 (f := .glo "_law_any") rfl)
  have b14 := F14.binds (ps := ["tape", "deep"]) fun _ _ _ _ _ _ us hl => match us, hl with | [_, _], _ => rfl
  obtain ⟨fd15, D15⟩ := d.def_ 15 (d := dd15) rfl
  have F15 : Fun K "_law_books" "_law_books" sBooks (He.fAd K ("_law_books", none)) fd15 := fun_of D15
  have g15 : mg "_law_books" = some (.ref (He.fAd K ("_law_books", none))) := He.glo_ok X G (d.fact 15 (f := .glo "_law_books") rfl)
  have b15 := F15.binds (ps := []) fun _ _ _ _ _ _ us hl => match us, hl with | [], _ => rfl
  obtain ⟨fd16, D16⟩ := d.def_ 16 (d := dd16) rfl
  have F16 : Fun K "_law_pile" "_law_pile" sPile (He.fAd K ("_law_pile", none)) fd16 := fun_of D16
  have g16 : mg "_law_pile" = some (.ref (He.fAd K ("_law_pile", none))) := He.glo_ok X G (d.fact 16 (f := .glo "_law_pile") rfl)
  have b16 := F16.binds (ps := ["tape", "size"]) fun _ _ _ _ _ _ us hl => match us, hl with | [_, _], _ => rfl
  obtain ⟨fd17, D17⟩ := d.def_ 17 (d := dd17) rfl
  have F17 : Fun K "_law_wants" "_law_wants" sWants (He.fAd K ("_law_wants", none)) fd17 := fun_of D17
  have g17 : mg "_law_wants" = some (.ref (He.fAd K ("_law_wants", none))) := He.glo_ok X G (d.fact 17 (f := .glo "_law_wants") rfl)
  have b17 := F17.binds (ps := ["tape", "books", "readers"]) fun _ _ _ _ _ _ us hl => match us, hl with | [_, _, _], _ => rfl
  obtain ⟨fd18, D18⟩ := d.def_ 18 (d := dd18) rfl
  have F18 : Fun K "_law_is_pile" "_law_is_pile" sLPile (He.fAd K ("_law_is_pile", none)) fd18 := fun_of D18
  have g18 : mg "_law_is_pile" = some (.ref (He.fAd K ("_law_is_pile", none))) := He.glo_ok X G (d.fact 18 (f := .glo "_law_is_pile") rfl)
  have b18 := F18.binds (ps := ["item"]) fun _ _ _ _ _ _ us hl => match us, hl with | [_], _ => rfl
  obtain ⟨fd19, D19⟩ := d.def_ 19 (d := dd19) rfl
  have F19 : Fun K "_law_are_wants" "_law_are_wants" sLWants (He.fAd K ("_law_are_wants", none)) fd19 := fun_of D19
  have g19 : mg "_law_are_wants" = some (.ref (He.fAd K ("_law_are_wants", none))) := He.glo_ok X G (d.fact 19 (f := .glo "_law_are_wants") rfl)
  have b19 := F19.binds (ps := ["item"]) fun _ _ _ _ _ _ us hl => match us, hl with | [_], _ => rfl
  obtain ⟨fd20, D20⟩ := d.def_ 20 (d := dd20) rfl
  have F20 : Fun K "law" "law" sLaw (He.fAd K ("law", none)) fd20 := fun_of D20
  have g20 : mg "law" = some (.ref (He.fAd K ("law", none))) := He.glo_ok X G (d.fact 20 (f := .glo "law") rfl)
  have B : Bi mg := ⟨He.free_ok X G (d.fact 21 (f := .free "len") rfl), He.free_ok X G (d.fact 22 (f := .free "range") rfl), He.free_ok X G (d.fact 23 (f := .free "tuple") rfl), He.free_ok X G (d.fact 24 (f := .free "list") rfl), He.free_ok X G (d.fact 25 (f := .free "sorted") rfl), He.free_ok X G (d.fact 26 (f := .free "enumerate") rfl), He.free_ok X G (d.fact 27 (f := .free "isinstance") rfl), He.free_ok X G (d.fact 28 (f := .free "bool") rfl), He.free_ok X G (d.fact 29 (f := .free "set") rfl), He.free_ok X G (d.fact 30 (f := .free "sum") rfl), He.free_ok X G (d.fact 31 (f := .free "min") rfl), He.free_ok X G (d.fact 32 (f := .free "max") rfl), He.free_ok X G (d.fact 33 (f := .free "dict") rfl), He.free_ok X G (d.fact 34 (f := .free "reversed") rfl), He.free_ok X G (d.fact 35 (f := .free "all") rfl), He.free_ok X G (d.fact 36 (f := .free "any") rfl), He.free_ok X G (d.fact 37 (f := .free "int") rfl), He.free_ok X G (d.fact 38 (f := .free "str") rfl), He.free_ok X G (d.fact 39 (f := .free "zip") rfl)⟩
  obtain ⟨ti0, mi0⟩ := He.int_ok X G (d.fact 40 (f := .int "LONGEST_NAME" 8) rfl)
  obtain ⟨ti1, mi1⟩ := He.int_ok X G (d.fact 41 (f := .int "MOST_BOOKS" 7) rfl)
  obtain ⟨ti2, mi2⟩ := He.int_ok X G (d.fact 42 (f := .int "MOST_WANTED_BOOKS" 5) rfl)
  obtain ⟨ti3, mi3⟩ := He.int_ok X G (d.fact 43 (f := .int "MOST_READERS_OF_ONE" 4) rfl)
  obtain ⟨ti4, mi4⟩ := He.int_ok X G (d.fact 44 (f := .int "MOST_READERS" 7) rfl)
  have e := hfa.symm.trans g20
  cases e
  have bl := FunD.bindsA (ps := ["script"]) D20 fun _ _ _ _ _ _ us hl => match us, hl with | [_], _ => rfl
  have in0 : tab0 ∈ tabsAt := by simp [tabsAt]
  have im0 : He.cT K tab0 ∈ tabsAt.map (He.cT K) := List.mem_map.mpr ⟨_, in0, rfl⟩
  have in1 : tab1 ∈ tabsAt := by simp [tabsAt]
  have im1 : He.cT K tab1 ∈ tabsAt.map (He.cT K) := List.mem_map.mpr ⟨_, in1, rfl⟩
  have in2 : tab2 ∈ tabsAt := by simp [tabsAt]
  have im2 : He.cT K tab2 ∈ tabsAt.map (He.cT K) := List.mem_map.mpr ⟨_, in2, rfl⟩
  have one : ∀ p ∈ tabsAt.map (He.cT K), ∃ t ∈ tabsAt, p = He.cT K t := fun p hp => by
    obtain ⟨t, ht, e⟩ := List.mem_map.mp hp
    exact ⟨t, ht, e.symm⟩
  refine ⟨fd20, tabsAt.map (He.cT K), spLawN K [(He.cT K tab0).2, (He.cT K tab1).2, (He.cT K tab2).2], fun p hp => ?_, fun p hp => ?_, fun p hp => ?_, fun s v => bl s [v] rfl, fun H a ns hl _ hH hS => ?_, fun base _ _ TBs => ?_⟩
  · obtain ⟨t, ht, rfl⟩ := one p hp
    exact c.empty t ht
  · obtain ⟨t, ht, rfl⟩ := one p hp
    exact c.out t ht
  · obtain ⟨t, ht, rfl⟩ := one p hp
    exact PySem.W.codeHd_of_K X (c.hd t ht)
  · exact ⟨a, ns, rfl, hS, hl, tabs_cons ⟨#[], hH _ im0, by first | trivial | exact rfl | simp [TriplesOk]⟩ (tabs_cons ⟨#[], hH _ im1, by first | trivial | exact rfl | simp [TriplesOk]⟩ (tabs_cons ⟨#[], hH _ im2, by first | trivial | exact rfl | simp [TriplesOk]⟩ tabs_nil)), fun _ => rfl⟩
  · have tb0 := TBs _ im0
    have TB0 : GxR.TabB base mg (He.cT K tab0).1 (He.cT K tab0).2 := ⟨tb0.code, tb0.bm, tb0.gP⟩
    have tb1 := TBs _ im1
    have TB1 : GxR.TabB base mg (He.cT K tab1).1 (He.cT K tab1).2 := ⟨tb1.code, tb1.bm, tb1.gP⟩
    have tb2 := TBs _ im2
    have TB2 : GxR.TabB base mg (He.cT K tab2).1 (He.cT K tab2).2 := ⟨tb2.code, tb2.bm, tb2.gP⟩
    have cNm : Has PySem.Challenge.rw_laidontop_k01_piles_and_wants_known.prog w K mg base 1 "is_name" ["thing"] (spName K (He.cT K tab0).2) := ⟨_, _, ok_isName F0 (code_at (p := tab0) F0) TB0 B mi0, g0, F0.kp, b0⟩
    have cIp : Has PySem.Challenge.rw_laidontop_k01_piles_and_wants_known.prog w K mg base 3 "is_pile" ["thing"] (spIsPileN K [(He.cT K tab0).2, (He.cT K tab1).2, (He.cT K tab2).2]) := ⟨_, _, ok_isPileN F2 (code_at (p := tab1) F2) TB1 (by simp) (by simp) B mi1 cNm, g2, F2.kp, b2⟩
    have cWh : Has PySem.Challenge.rw_laidontop_k01_piles_and_wants_known.prog w K mg base 1 "is_whole_number" ["thing"] (spWhole K) := ⟨_, _, ok_whole F1 B, g1, F1.kp, b1⟩
    have cIw : Has PySem.Challenge.rw_laidontop_k01_piles_and_wants_known.prog w K mg base 2 "is_want" ["thing"] (spWant K (He.cT K tab0).2) := ⟨_, _, ok_isWant F4 B mi3 cNm cWh, g4, F4.kp, b4⟩
    have cRi : Has PySem.Challenge.rw_laidontop_k01_piles_and_wants_known.prog w K mg base 1 "books_rise" ["wants"] (spRise K) := ⟨_, _, ok_rise F5 B, g5, F5.kp, b5⟩
    have cAw : Has PySem.Challenge.rw_laidontop_k01_piles_and_wants_known.prog w K mg base 4 "are_wants" ["thing"] (spAreWants K [(He.cT K tab0).2, (He.cT K tab1).2, (He.cT K tab2).2]) := ⟨_, _, ok_areWants F3 (code_at (p := tab2) F3) TB2 (by simp) (by simp) B mi2 mi4 cIw cRi, g3, F3.kp, b3⟩
    have cD : Has PySem.Challenge.rw_laidontop_k01_piles_and_wants_known.prog w K mg base 1 "_law_draw" ["tape", "many"] spDraw := ⟨_, _, ok_draw F6 B.len, g6, F6.kp, b6⟩
    have cLk : Has PySem.Challenge.rw_laidontop_k01_piles_and_wants_known.prog w K mg base 1 "_law_like" ["one", "two"] (spLike K 1) := ⟨_, _, like_all F9 B g9 b9 1, g9, F9.kp, b9⟩
    have cLh : Has PySem.Challenge.rw_laidontop_k01_piles_and_wants_known.prog w K mg base 1 "_law_whole" ["item"] (spWhole K) := ⟨_, _, ok_lWhole F7 B, g7, F7.kp, b7⟩
    have cWi : Has PySem.Challenge.rw_laidontop_k01_piles_and_wants_known.prog w K mg base 2 "_law_within" ["item", "low", "high"] (spWithin K) := ⟨_, _, ok_within F8 cLh, g8, F8.kp, b8⟩
    have cO : Has PySem.Challenge.rw_laidontop_k01_piles_and_wants_known.prog w K mg base 2 "_law_any_order" ["tape", "many"] spOrder := ⟨_, _, ok_order F10 B cD, g10, F10.kp, b10⟩
    have cRs : Has PySem.Challenge.rw_laidontop_k01_piles_and_wants_known.prog w K mg base 1 "_law_rises" ["some"] spRises := ⟨_, _, ok_rises F12 B, g12, F12.kp, b12⟩
    have cLn : Has PySem.Challenge.rw_laidontop_k01_piles_and_wants_known.prog w K mg base 1 "_law_is_name" ["item"] (spLName K) := ⟨_, _, ok_lName F13 B, g13, F13.kp, b13⟩
    have cAn : Has PySem.Challenge.rw_laidontop_k01_piles_and_wants_known.prog w K mg base 4 "_law_any" ["tape", "deep"] (spAny K 3) := ⟨_, _, any_all F14 B cD g14 b14 3, g14, F14.kp, b14⟩
    have cAny : Has PySem.Challenge.rw_laidontop_k01_piles_and_wants_known.prog w K mg base 5 "_law_any" ["tape", "deep"] (spAny K 4) := ⟨_, _, any_all F14 B cD g14 b14 4, g14, F14.kp, b14⟩
    have cSp : Has PySem.Challenge.rw_laidontop_k01_piles_and_wants_known.prog w K mg base 10 "_law_spoilt" ["tape", "item"] (spSpoilt K 6) := ⟨_, _, spoilt_all F11 B cD cLh cAn g11 b11 6, g11, F11.kp, b11⟩
    have cB : Has PySem.Challenge.rw_laidontop_k01_piles_and_wants_known.prog w K mg base 1 "_law_books" [] spBooks := ⟨_, _, ok_books F15, g15, F15.kp, b15⟩
    have cPi : Has PySem.Challenge.rw_laidontop_k01_piles_and_wants_known.prog w K mg base 3 "_law_pile" ["tape", "size"] spPile := ⟨_, _, ok_pile F16 B cD cO cB, g16, F16.kp, b16⟩
    have cWa : Has PySem.Challenge.rw_laidontop_k01_piles_and_wants_known.prog w K mg base 2 "_law_wants" ["tape", "books", "readers"] spWants := ⟨_, _, ok_wants F17 B cD cB, g17, F17.kp, b17⟩
    have cLp : Has PySem.Challenge.rw_laidontop_k01_piles_and_wants_known.prog w K mg base 2 "_law_is_pile" ["item"] (spLPile K) := ⟨_, _, ok_lPile F18 B cLn, g18, F18.kp, b18⟩
    have cLw : Has PySem.Challenge.rw_laidontop_k01_piles_and_wants_known.prog w K mg base 3 "_law_are_wants" ["item"] (spLWants K) := ⟨_, _, ok_lWants F19 B cLn cWi cRs, g19, F19.kp, b19⟩
    exact ok_law F20 B cB cPi cWa cSp cAny cLk cIp cLp cAw cLw
end Lt
open PySem PySem.W PySem.Calls PyProof.Rows in
set_option maxRecDepth 100000 in
set_option maxHeartbeats 0 in
theorem PySem.Challenge.cw_laidontop_k01_piles_and_wants_known_holds : PySem.Challenge.rw_laidontop_k01_piles_and_wants_known.Holds := by
  w_on; o_law
  refine HandSHeadRun.head_any (r := Lt.rowX) (q := view Lt.rowX.prog [29]) (H := Lt.hookAt) (ob := Lt.seenAt) (M := 4000) (loose := Lt.namesAt) (d := HandSHeadRun.topDef Lt.rowX.prog 29) (kwd := []) Lt.seenAt_eq (by kernel_rfl) (fun s => by kernel_rfl) Lt.runAt
    (by kernel_rfl) (by kernel_rfl) (by kernel_rfl) (by rfl) (by first | assumption | decide +kernel) (by decide +kernel) ⟨rfl, rfl, rfl, rfl, rfl, by decide +kernel⟩ ?hw ?hc
  case hw => w_witness2
  case hc =>
    refine LamX.walk_ofTsE (l := PySem.Challenge.rw_laidontop_k01_piles_and_wants_known) (n := 63) (k := 11) (x := "script") (CX := fun _ => L2.CX0) rfl (by decide) (by kernel_rfl) ⟨rfl, by decide, by decide⟩ ?F (fun _ _ _ _ _ z => z)
    rintro w mg fa h ⟨K, KX, c⟩ G hm
    refine ⟨K, KX, Lt.lawAt KX G ?_ c⟩
    have e : (HandSHeadRun.topDef Lt.rowX.prog 29).name = ("law" : PySem.Str) := by kernel_rfl
    rw [← e]
    exact hm
